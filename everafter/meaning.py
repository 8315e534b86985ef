"""Meaning: at which moments of an endless run a saying holds."""


def holds(saying, way, ring):
    """Tell whether the run of a way and a ring of marks keeps a saying."""
    return row_of(saying, way, ring)[0]


def row_of(saying, way, ring):
    """Tell of each moment of the way and of the ring's first round whether a saying holds there."""
    return _row(saying, [*way, *ring], len(way))


def _row(saying, marks, back):
    """Return the row of a saying along marks of which the last one goes on to the one numbered back."""
    kind = saying[0]
    if kind == "mark":
        return [mark == saying[1] for mark in marks]
    if kind == "yes":
        return [True] * len(marks)
    rows = [_row(part, marks, back) for part in saying[1:]]
    if kind == "not":
        return _not_row(rows[0])
    if kind == "and":
        return [one and other for one, other in zip(rows[0], rows[1])]
    if kind == "or":
        return [one or other for one, other in zip(rows[0], rows[1])]
    if kind == "next":
        return rows[0][1:] + [rows[0][back]]
    if kind == "till":
        return _till_row(rows[0], rows[1], back)
    if kind == "always":
        return _always_row(rows[0], back)
    # An again holds everywhere or nowhere: the ring comes again behind every moment.
    return [any(rows[0][back:])] * len(marks)


def _not_row(row):
    """Return the truths contrary to those of a row."""
    return [not truth for truth in row]


def _till_row(ahead, goal, back):
    """Return the row of a till by the rows of the sayings within it."""
    later = False
    # Once around the ring first: what holds at its end depends on what holds at its start.
    for at in range(len(goal) - 1, back - 1, -1):
        later = goal[at] or (ahead[at] and later)
    row = []
    for at in range(len(goal) - 1, -1, -1):
        later = goal[at] or (ahead[at] and later)
        row.append(later)
    row.reverse()
    return row


def _always_row(row, back):
    """Return the row of an always by the row of the saying within it."""
    return _not_row(_till_row([True] * len(row), _not_row(row), back))
