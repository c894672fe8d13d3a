"""Choices that come round: rings of a book past a choice of either side, and splits that show that there is none.

The book is that of a spoken desk: all its words are said or sayable, and all its states live.
"""

from endswell.graphs import grown, nodes_from, shortest_way


def reach_of(book):
    """Return the dictionary from the states to the dictionaries of True from the states that come from them."""
    graph = graph_in(book)
    return {state: nodes_from(graph, state) for state in graph}


def graph_in(book):
    """Return the dictionary from the states of a book to their turns."""
    return {state: book[state][1] for state in book}


def has_choice(row, kind):
    """Return whether a row is of a kind and has two words or more."""
    return row[0] == kind and len(row[1]) > 1


def ring_of(book, start):
    """Return a choice ring, None if there is none."""
    reach = reach_of(book)
    saying = [state for state in book if has_choice(book[state], "says")]
    hearing = [state for state in book if has_choice(book[state], "hears")]
    graph = graph_in(book)
    for said in saying:
        for heard in hearing:
            if heard in reach[said] and said in reach[heard]:
                there = shortest_way(graph, said, [heard])
                return shortest_way(graph, start, [said]), there + shortest_way(graph, heard, [said])
    return None


def states_along(book, start, talk):
    """Return the list of the states on the way along a talk, the start among them, None if it does not lead on."""
    states = [start]
    for word in talk:
        turns = book[states[-1]][1]
        if word not in turns:
            return None
        states.append(turns[word])
    return states


def is_ring(book, start, talk, ring):
    """Return whether two talks are a choice ring."""
    there = states_along(book, start, talk)
    if there is None:
        return False
    along = states_along(book, there[-1], ring)
    if along is None or along[-1] != there[-1]:
        return False
    # no state is of both kinds, so a ring that is empty is none
    says = any([has_choice(book[state], "says") for state in along])
    return says and any([has_choice(book[state], "hears") for state in along])


def split_in(book):
    """Return a dictionary from the states to counts that fall, but among states that come from one another."""
    reach = reach_of(book)
    # states that come from one another have the same mark, and more comes from a state than from one farther on
    marks = {state: mark_in(reach, state) for state in book}
    places = {mark: at for at, mark in enumerate(sorted(set(list(marks.values()))))}
    return {state: places[marks[state]] for state in book}


def mark_in(reach, state):
    """Return how many states come from a state, and the first of those that also lead back to it."""
    return len(reach[state]), min([other for other in reach[state] if state in reach[other]])


def is_split_in(book, counts):
    """Return whether counts of all states never rise, and part the choices of either side."""
    if not all([counts[goal] <= counts[state] for state in book for goal in book[state][1].values()]):
        return False
    saying = {counts[state]: True for state in book if has_choice(book[state], "says")}
    return not any([counts[state] in saying for state in book if has_choice(book[state], "hears")])


def fooling_graph(book, start, talk, ring):
    """Return a tuple of the graph of a desk that never leaves a talk and a ring by its own words, and its first node.

    A node is a tuple of a state and its place in the words of the two, None where it has left them.
    """
    first = (start, 0)
    return grown(fooling_turns, (book, talk + ring, len(talk)), [first]), first


def fooling_turns(told, node):
    """Return the turns of a node: those of its state, but where it says on the way just the word of this."""
    book, words, back = told
    state, place = node
    kind, turns = book[state]
    if place is None:
        return {word: (turns[word], None) for word in turns}
    later = place + 1 if place + 1 < len(words) else back
    follow = words[place]
    if kind == "says":
        return {follow: (turns[follow], later)}
    return {word: (turns[word], later if word == follow else None) for word in turns}
