"""Nodes of a graph that can be kept, with ranks, and nodes that go, with levels.

What keeps a node is asked of the nodes to which it leads: "always" nothing, and
"never" nothing will do; "all" that all of them are kept; "some" that some of them
is kept that is nearer, that is of a lower rank; "nearer" both. As many nodes as
can be are kept. The others go level by level: one goes that lost what it needs to
the levels ahead of its own, or that only such nodes could keep as go with it.
"""

from endswell.graphs import nodes_before, words_to


def parted(graph, asks):
    """Return a tuple of the least ranks of the nodes that are kept and the least levels of all others."""
    before = nodes_before(graph)
    rests = rests_at_first(before, asks)
    levels = {}
    level = 0
    going = [node for node in graph if node not in rests]
    while going:
        for node in going:
            levels[node] = level
        going = going_then(graph, before, asks, rests, going)
        level += 1
    return ranks_of(graph, asks, rests), levels


def rests_at_first(before, asks):
    """Return the dictionary from the nodes that can be come near to those on which they rest, None for the nearest."""
    rests = {node: None for node in asks if asks[node] == "always" or asks[node] == "all"}
    waiting = {node: True for node in asks if asks[node] == "nearer" or asks[node] == "some"}
    let_rest(before, rests, waiting, list(rests))
    return rests


def let_rest(before, rests, waiting, layer):
    """Let all waiting nodes rest that come to one of a layer, on the node behind them."""
    while layer:
        coming = []
        for node in layer:
            for earlier in before[node]:
                if earlier in waiting and earlier not in rests:
                    rests[earlier] = node
                    coming.append(earlier)
        layer = coming


def going_then(graph, before, asks, rests, gone):
    """Return the list of the nodes that go next, and take them out of those that rest."""
    dropped = dropped_by(before, asks, rests, gone)
    doubted = resting_on(before, rests, dropped)
    for node in doubted:
        del rests[node]
    waiting = {node: True for node in doubted if node not in dropped}
    # only what rested on a dropped node is looked at again, as there may be many nodes and many levels
    for node in waiting:
        for later in graph[node].values():
            if later in rests:
                rests[node] = later
                break
    let_rest(before, rests, waiting, [node for node in waiting if node in rests])
    return [node for node in doubted if node not in rests]


def dropped_by(before, asks, rests, gone):
    """Return the dictionary of True from the nodes that need all nodes behind them and lost one that is gone."""
    dropped = {}
    for node in gone:
        for earlier in before[node]:
            if earlier in rests and (asks[earlier] == "all" or asks[earlier] == "nearer"):
                dropped[earlier] = True
    return dropped


def resting_on(before, rests, dropped):
    """Return the dictionary of True from dropped nodes and all that rest on them, also one upon the other."""
    found = {node: True for node in dropped}
    layer = list(dropped)
    while layer:
        coming = []
        for node in layer:
            for earlier in before[node]:
                if earlier not in found and rests.get(earlier) == node:
                    found[earlier] = True
                    coming.append(earlier)
        layer = coming
    return found


def ranks_of(graph, asks, rests):
    """Return the least ranks of the nodes that are kept."""
    kept = {node: {word: later for word, later in graph[node].items() if later in rests} for node in rests}
    return words_to(kept, [node for node in rests if asks[node] == "always" or asks[node] == "all"])
