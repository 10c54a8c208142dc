"""Tables of integers as nets have them: exits of each point less those that lead back into the table."""


def exits_table(rows):
    """For points p and q how many exits p has, if they are one, and 0 otherwise, less the exits of p that lead to q."""
    table = []
    for point, row in enumerate(rows):
        counts = [-len([target for target in row if target == goal]) for goal in range(len(rows))]
        counts[point] += len(row)
        table.append(counts)
    return table


def turned(table):
    """The table with rows and columns exchanged."""
    return [[row[at] for row in table] for at in range(len(table))]


def determinant(table):
    """The determinant of such a table."""
    _, found = _cleared(table)
    return found


def solution(table, right):
    """The numbers that solve the table for this right side, as integers over the determinant, and this."""
    rows, found = _cleared([row + [number] for row, number in zip(table, right)])
    return [row[-1] for row in rows], found


def _cleared(table):
    """The rows when each column is cleared but for one entry, the determinant, and this.

    A first corner of such a table has the determinant 0 only if no exit leads out of its points, so all of it is 0."""
    rows = table
    last = 1
    for at in range(len(table)):
        head = rows[at]
        if head[at] == 0:
            return rows, 0
        # What is divided by is in all of these, so that integers stay integers, and short ones.
        rows = [row if place == at else _less(row, head, at, last) for place, row in enumerate(rows)]
        last = head[at]
    return rows, last


def _less(row, head, at, last):
    """The row, with 0 in this column."""
    return [(head[at] * one - row[at] * two) // last for one, two in zip(row, head)]
