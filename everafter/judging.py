"""Judging: whether a machine keeps a saying, and what shows it."""

from everafter.graphs import clusters, shortest_path
from everafter.webs import Web


def judged(machine, saying):
    """Return the ranks that show that a machine keeps a saying, or a walk that breaks it."""
    web = Web(machine, saying)
    rows = []
    # A cluster stands behind those to which it leads, so its place in the row may be its rank.
    for rank, cluster in enumerate(clusters(web.threads)):
        number = _broken_promise(web, cluster)
        if number is None:
            return _breaking_walk(web, cluster)
        rows.extend([(place, guess, rank, number) for place, guess in cluster])
    return ("keeps", rows)


def _broken_promise(web, cluster):
    """Return the number of a promise by which no run stays in a cluster; None if there is no such promise."""
    for number in range(len(web.promises)):
        if not any([web.meets(knot, number) for knot in cluster]):
            return number
    # No run stays at a single knot that does not lead to itself, whatever is met there.
    if len(cluster) == 1 and cluster[0] not in web.threads[cluster[0]]:
        return 0
    return None


def _breaking_walk(web, cluster):
    """Return a walk that comes to a cluster and goes around in it for ever, meeting each promise."""
    path = shortest_path(web.knots[:web.begun], web.threads, cluster)
    ring = _ring_in(web, cluster, path[-1])
    return ("breaks", [place for place, _ in path[:-1]], [place for place, _ in ring])


def _ring_in(web, cluster, first):
    """Return a ring of knots of a cluster, from the first one on, on which each promise is met."""
    threads = _threads_within(web, cluster)
    ring = [first]
    for number in range(len(web.promises)):
        if not any([web.meets(knot, number) for knot in ring]):
            goals = [knot for knot in cluster if web.meets(knot, number)]
            ring = ring + _steps_to(goals, ring[-1], threads)
    # The last one of these steps comes to the first knot, which the ring has already.
    return ring + _steps_to([first], ring[-1], threads)[:-1]


def _steps_to(goals, knot, threads):
    """Return the knots behind this one, one at least, on a shortest path to one of the goals."""
    return shortest_path(threads[knot], threads, goals)


def _threads_within(web, cluster):
    """Return the threads that lead from knots of a cluster to knots of it."""
    members = {knot: True for knot in cluster}
    return {knot: [end for end in web.threads[knot] if end in members] for knot in cluster}
