"""Graphs of a production.

A graph is a list with a row for each occurrence: a whole number whose bit k is
set if an arrow leads to the occurrence of number k. Families take many rounds,
and by bits all arrows of an occurrence are joined in one step.
"""


def with_arrow(row, target):
    return row | (1 << target)


def has_arrow(row, target):
    return (row >> target) & 1 == 1


def closed(graph):
    """The graph that has an arrow for each way in the one given."""
    rows = list(graph)
    for middle in range(len(graph)):
        onward = rows[middle]
        rows = [row | onward if has_arrow(row, middle) else row for row in rows]
    return rows


def told_arrows(occurrences, graph):
    """The arrows of a graph in their order, four numbers each."""
    told = []
    for start, row in enumerate(graph):
        for target, occurrence in enumerate(occurrences):
            if has_arrow(row, target):
                told.extend(occurrences[start])
                told.extend(occurrence)
    return told


def told_occurrences(occurrences, numbers):
    """How many occurrences these numbers tell, then the occurrences, two numbers each."""
    told = [len(numbers)]
    for number in numbers:
        told.extend(occurrences[number])
    return told
