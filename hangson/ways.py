"""The first of the shortest ways and circles of a graph.

A way is a list of the numbers of occurrences, in which the order of numbers is
the order of occurrences.
"""

from hangson.graphs import closed, has_arrow, with_arrow


def has_circle(graph):
    return any([has_arrow(row, number) for number, row in enumerate(closed(graph))])


def steps_to(graph, target):
    """How many arrows at least lead from an occurrence to the target, for each from which they do; 0 from itself."""
    steps = {target: 0}
    count = 0
    reached = with_arrow(0, target)
    while reached != 0:
        count += 1
        before = [number for number, row in enumerate(graph) if row & reached != 0 and number not in steps]
        reached = 0
        for number in before:
            steps[number] = count
            reached = with_arrow(reached, number)
    return steps


def nearest(row, steps):
    """Of the occurrences to which the row has arrows the first with the fewest steps, or None."""
    onward = [number for number in sorted(steps) if has_arrow(row, number)]
    return min(onward, key=lambda number: steps[number], default=None)


def first_way(graph, start, target):
    """The first of the shortest ways, or an empty list if there is none."""
    steps = steps_to(graph, target)
    # The start itself may be the target, with no step to go: what counts is how far it is behind one arrow.
    second = nearest(graph[start], steps)
    if second is None:
        return []
    found = [start, second]
    while found[-1] != target:
        found.append(nearest(graph[found[-1]], steps))
    return found


def first_circle(graph):
    """The first of the shortest circles, or an empty list if there is none.

    A shortest way that comes back to its start passes no occurrence twice. The
    circles come by their first occurrences, and of equally short ones min takes
    the one that came first.
    """
    ways = closed(graph)
    circles = [first_way(graph, number, number)[:-1] for number, row in enumerate(ways) if has_arrow(row, number)]
    return min(circles, key=len, default=[])
