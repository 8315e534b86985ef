"""What can be said of knots and threads alone: which knots lead to one another, and by which paths.

Threads are told by a dict from knots to lists of the knots to which they lead.
"""


def clusters(threads):
    """Return lists of knots that all lead to one another, each list behind those to which it leads."""
    found = []
    placed = {}
    # What a search against the threads leaves last leads, along them, to its like and to what is placed already.
    for knot in reversed(_order_of_leaving(_against(threads))):
        if knot not in placed:
            found.append(_gather(knot, threads, placed))
    return found


def shortest_path(begins, threads, goals):
    """Return a shortest row of knots from one of begins to one of goals, both of them in it."""
    before = {knot: None for knot in begins}
    row = list(begins)
    at = 0
    while row[at] not in goals:
        knot = row[at]
        for end in threads[knot]:
            if end not in before:
                before[end] = knot
                row.append(end)
        at += 1
    return _path_to(row[at], before)


def _path_to(knot, before):
    """Return the path that ends at a knot, by the knot before each."""
    path = []
    while knot is not None:
        path.append(knot)
        knot = before[knot]
    path.reverse()
    return path


def _against(threads):
    """Return the same threads, each led the other way."""
    turned = {knot: [] for knot in threads}
    for knot in threads:
        for end in threads[knot]:
            turned[end].append(knot)
    return turned


def _order_of_leaving(threads):
    """Return all knots in the order in which a search leaves them that goes on before it goes back."""
    order = []
    seen = {}
    for start in threads:
        waiting = [(start, False)]
        while len(waiting) > 0:
            knot, is_left = waiting.pop()
            if is_left:
                order.append(knot)
            elif knot not in seen:
                seen[knot] = True
                # Behind this one wait those to which it leads, so that it is left after all of them.
                waiting.append((knot, True))
                waiting.extend([(end, False) for end in threads[knot]])
    return order


def _gather(first, threads, placed):
    """Return the first knot and all to which it leads that are not placed yet, and note them as placed."""
    placed[first] = True
    row = [first]
    at = 0
    while at < len(row):
        knot = row[at]
        for end in threads[knot]:
            if end not in placed:
                placed[end] = True
                row.append(end)
        at += 1
    return row
