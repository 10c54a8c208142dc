"""How visits are dealt, without checks: so also for numbers of more than thirty digits, which are no visits."""


def deals_of(rows, setting):
    """For each track a tuple (point, ahead, many, target), by which `times_gone` tells how often it is gone."""
    deals = []
    for point, row in enumerate(rows):
        for spot, target in enumerate(row):
            turns = (spot - setting[point]) % len(row)
            deals.append((point, len(row) - 1 - turns, len(row), target))
    return deals


def times_gone(deals, visits):
    """How often each track is gone by the visits."""
    return [(visits[point] + ahead) // many for point, ahead, many, _ in deals]


def arrivals(deals, starts, visits):
    """How many begin at each point or come to it."""
    found = list(starts)
    for point, ahead, many, target in deals:
        if target >= 0:
            found[target] += (visits[point] + ahead) // many
    return found


def come_to_ends(deals, ends, visits):
    """How many have come to each of so many ends."""
    found = [0] * ends
    for point, ahead, many, target in deals:
        if target < 0:
            found[-1 - target] += (visits[point] + ahead) // many
    return found


def setting_behind(rows, setting, visits):
    """The setting behind the visits."""
    return [(spot + many) % len(row) for row, spot, many in zip(rows, setting, visits)]


def last_targets(rows, setting, visits):
    """Where each visited point's last exit leads, behind the visits; None for a point that isn't visited."""
    found = []
    for row, spot, many in zip(rows, setting, visits):
        found.append(row[(spot + many - 1) % len(row)] if many > 0 else None)
    return found


def found_ring(rows, setting, visits):
    """A ring of the visits; None if there is none."""
    lasts = last_targets(rows, setting, visits)
    seen = {}
    for begin in range(len(rows)):
        way = []
        point = begin
        while point is not None and point >= 0 and point not in seen:
            seen[point] = begin
            way.append(point)
            point = lasts[point]
        if point is not None and point >= 0 and seen[point] == begin:
            return way[way.index(point):]
    return None


def less_once(visits, ring):
    """The visits, one fewer for each point of the ring."""
    return [many - 1 if point in ring else many for point, many in enumerate(visits)]
