"""Ways through graphs: dictionaries from nodes to dictionaries, words ascending, from words to nodes.

A way is the list of the words along which it goes. Desks are such graphs of
their states, two desks that face one another are one of their pairs.
"""


def node_behind(graph, start, way):
    """Return the node to which a way leads, None if there is no such way."""
    node = start
    for word in way:
        if word not in graph[node]:
            return None
        node = graph[node][word]
    return node


def grown(onward, told, firsts):
    """Return the graph of all nodes that come from the first ones; onward(told, node) tells where a node leads."""
    graph = {}
    found = {node: True for node in firsts}
    layer = list(found)
    while layer:
        coming = []
        for node in layer:
            graph[node] = onward(told, node)
            for goal in graph[node].values():
                if goal not in found:
                    found[goal] = True
                    coming.append(goal)
        layer = coming
    return graph


def nodes_from(graph, start):
    """Return the dictionary of True from all nodes to which some way leads."""
    found = {start: True}
    layer = [start]
    while layer:
        coming = []
        for node in layer:
            for goal in graph[node].values():
                if goal not in found:
                    found[goal] = True
                    coming.append(goal)
        layer = coming
    return found


def nodes_before(graph):
    """Return the dictionary from the nodes to the lists of those from which one word leads there."""
    before = {node: [] for node in graph}
    for node in graph:
        for goal in graph[node].values():
            before[goal].append(node)
    return before


def words_to(graph, goals):
    """Return the dictionary from all nodes with a way to one of the goals to the least number of its words."""
    before = nodes_before(graph)
    least = {goal: 0 for goal in goals}
    layer = list(goals)
    while layer:
        coming = []
        for node in layer:
            for earlier in before[node]:
                if earlier not in least:
                    least[earlier] = least[node] + 1
                    coming.append(earlier)
        layer = coming
    return least


def word_nearer(turns, least, many):
    """Return the first word of turns behind which just so many words are the least to a goal."""
    for word in turns:
        if least.get(turns[word], many + 1) == many:
            return word
    return None


def shortest_way(graph, start, goals):
    """Return a way of as few words as can be to one of the goals, None if there is none."""
    least = words_to(graph, goals)
    if start not in least:
        return None
    way = []
    node = start
    for many in reversed(range(least[start])):
        word = word_nearer(graph[node], least, many)
        way.append(word)
        node = graph[node][word]
    return way


def steps_within(graph, layer, useful):
    """Return the dictionary from the useful nodes behind a layer to some (node, word) that leads there."""
    steps = {}
    for node in layer:
        for word in graph[node]:
            if graph[node][word] in useful:
                steps[graph[node][word]] = (node, word)
    return steps


def longest_way(graph, start, goals):
    """Return a way of as many words as can be to one of the goals, None if there is no way or no longest one."""
    useful = words_to(graph, goals)
    if start not in useful:
        return None
    layers = [{start: (start, "")}]
    while layers[-1]:
        # a way with so many words comes to some node twice, and could go round there for ever
        if len(layers) > len(useful):
            return None
        layers.append(steps_within(graph, layers[-1], useful))
    return way_through(layers[:-1])


def way_through(layers):
    """Return a way that leads to the first node of the last layer, each layer telling whence it was come to."""
    way = []
    node = list(layers[-1])[0]
    for layer in reversed(layers[1:]):
        node, word = layer[node]
        way.append(word)
    way.reverse()
    return way


def many_by_size(graph, goals, size):
    """Return the list that has at k the dictionary from nodes to how many ways of k words lead to goals."""
    tables = [{goal: 1 for goal in goals}]
    while len(tables) <= size:
        tables.append(many_before(graph, tables[-1]))
    return tables


def many_before(graph, table):
    """Return how many ways there are of one word more than in a table, only for nodes that have some."""
    sums = {}
    for node in graph:
        many = sum([table.get(goal, 0) for goal in graph[node].values()])
        if many > 0:
            sums[node] = many
    return sums


def way_at(graph, start, tables, number):
    """Return the way at a position in the ascending list of those as long as the tables tell."""
    way = []
    node = start
    left = number
    for table in reversed(tables[:-1]):
        for word in graph[node]:
            many = table.get(graph[node][word], 0)
            if left < many:
                way.append(word)
                break
            left -= many
        node = graph[node][way[-1]]
    return way


def place_of(graph, start, tables, way):
    """Return the position of a way to a goal in the ascending list of those that are as long."""
    place = 0
    node = start
    for word, table in zip(way, list(reversed(tables[:-1]))):
        place += sum([table.get(graph[node][other], 0) for other in graph[node] if other < word])
        node = graph[node][word]
    return place
