"""Rings of tracks, cuts and lists that are tried, over rows of exits: so also of nets that are given a seventh end."""


def order_without(rows, lot):
    """The other points, each behind all of them that lead to it, the least first that can be; None without a cut."""
    left = [point for point in range(len(rows)) if point not in lot]
    order = []
    while left:
        barred = {target: True for point in left for target in rows[point]}
        ready = [point for point in left if point not in barred]
        if not ready:
            return None
        order.append(ready[0])
        left.remove(ready[0])
    return order


def ring_around(rows, lot):
    """The points of a ring of tracks through no point of the lot, none of them twice; None if the lot is a cut."""
    left = [point for point in range(len(rows)) if point not in lot]
    kept = _going_on(rows, left)
    while len(kept) < len(left):
        left = kept
        kept = _going_on(rows, left)
    if not left:
        return None
    # Each of these points leads to one of them, so a walk among them comes round.
    way = []
    point = left[0]
    while point not in way:
        way.append(point)
        point = [target for target in rows[point] if target in left][0]
    return way[way.index(point):]


def _going_on(rows, points):
    """Those of the points from which an exit leads to one of them."""
    return [point for point in points if any([target in points for target in rows[point]])]


def first_cut(rows, most_points, most_tries):
    """The first cut of at most so many points among so many lists that are tried first; None if there is none."""
    rings = []
    lot = []
    tries = 0
    while len(lot) <= most_points and tries < most_tries:
        tries += 1
        # Most lists miss a ring that an earlier one missed: that is seen much faster than a ring is found.
        if not _misses_one(rings, _mask_of(lot)):
            ring = ring_around(rows, lot)
            if ring is None:
                return lot
            rings.append(_mask_of(ring))
        lot = _next_tried(lot, len(rows))
    return None


def _mask_of(points):
    """The points as the bits of an integer."""
    mask = 0
    for point in points:
        mask |= 1 << point
    return mask


def _misses_one(rings, mask):
    for ring in rings:
        if ring & mask == 0:
            return True
    return False


def _next_tried(lot, points):
    """The list that is tried behind this one, of so many points; all of them together are a cut, so it isn't these."""
    many = len(lot)
    for at in reversed(range(many)):
        if lot[at] < points - many + at:
            first = lot[at] + 1
            return lot[:at] + list(range(first, first + many - at))
    return list(range(many + 1))


def less_needless(rows, lot):
    """What is left of a cut if each point, the last one first, is taken out without which it is still a cut."""
    kept = list(lot)
    for point in reversed(list(lot)):
        fewer = [other for other in kept if other != point]
        if ring_around(rows, fewer) is None:
            kept = fewer
    return kept
