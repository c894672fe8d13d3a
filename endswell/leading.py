"""Nodes of a graph from which an end is brought about, whatever is chosen at some of them."""

from endswell.graphs import nodes_before


def led_words(graph, choosing, ends):
    """Return the dictionary from the nodes that are led to an end to the least number of words within which they are.

    A choosing node is led if some node behind it is, any other one if all are. Nothing leads on from the ends.
    """
    before = nodes_before(graph)
    waits = {node: 1 if node in choosing else len(graph[node]) for node in graph}
    least = {end: 0 for end in ends}
    layer = list(least)
    while layer:
        coming = []
        for node in layer:
            for earlier in before[node]:
                waits[earlier] -= 1
                # below 0 come choosing nodes alone, which were led ahead of this
                if waits[earlier] == 0:
                    least[earlier] = least[node] + 1
                    coming.append(earlier)
        layer = coming
    return least
