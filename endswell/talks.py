"""Talks: lists of words, and how a desk stands to them."""

from endswell.desks import graph_of, need_desk
from endswell.errors import InvalidCount, InvalidTalk
from endswell.forms import is_count, is_names
from endswell.graphs import longest_way, many_by_size, node_behind, place_of, shortest_way, way_at


def is_talk(value):
    """Return whether any object is a talk."""
    return is_names(value)


def need_talk(talk):
    """Raise InvalidTalk unless any object is a talk."""
    if not is_talk(talk):
        raise InvalidTalk(talk)


def need_size(size):
    """Raise InvalidCount unless any object is a count."""
    if not is_count(size):
        raise InvalidCount(size)


def is_talk_as_short(graph, start, goals, shortest, value):
    """Return whether any object is a talk of as many words as the shortest one, if any, and leads to a goal, too."""
    if shortest is None or not is_talk(value) or len(value) != len(shortest):
        return False
    behind = node_behind(graph, start, value)
    return behind is not None and behind in goals


def done_states(desk):
    """Return the ascending list of the states that are done."""
    book = desk.book()
    return [state for state in book if book[state][0] == "done"]


def state_behind(desk, talk):
    """Return the state to which a talk leads, None if the desk has not this talk."""
    need_desk(desk)
    need_talk(talk)
    return node_behind(graph_of(desk), desk.start(), talk)


def state_had(desk, talk):
    """Return the state to which a talk leads; raise InvalidTalk also if the desk has not this talk."""
    state = state_behind(desk, talk)
    if state is None:
        raise InvalidTalk(talk)
    return state


def turns_behind(desk, talk):
    """Return a tuple of the kind of the state behind a talk and the ascending list of its words."""
    state = state_had(desk, talk)
    kind, turns = desk.book()[state]
    return kind, list(turns)


def spoken(desk, talk):
    """Return the list of the words of a talk, each in a tuple with the kind of the state that it leaves."""
    state_had(desk, talk)
    book = desk.book()
    state = desk.start()
    told = []
    for word in talk:
        kind, turns = book[state]
        told.append((kind, word))
        state = turns[word]
    return told


def is_whole(desk, talk):
    """Return whether a desk is done behind a talk."""
    return state_behind(desk, talk) in done_states(desk)


def shortest_whole(desk):
    """Return a whole talk with as few words as can be, None if there is none."""
    need_desk(desk)
    return shortest_way(graph_of(desk), desk.start(), done_states(desk))


def is_shortest_whole(desk, value):
    """Return whether any object is a whole talk with as few words as can be."""
    shortest = shortest_whole(desk)
    return is_talk(value) and is_whole(desk, value) and len(value) == len(shortest)


def longest_whole(desk):
    """Return a whole talk with as many words as can be, None if there is none or no longest one."""
    need_desk(desk)
    return longest_way(graph_of(desk), desk.start(), done_states(desk))


def is_longest_whole(desk, value):
    """Return whether any object is a whole talk with as many words as can be."""
    longest = longest_whole(desk)
    return longest is not None and is_talk(value) and is_whole(desk, value) and len(value) == len(longest)


def many_talks(desk, size):
    """Return how many talks of so many words a desk has."""
    need_desk(desk)
    need_size(size)
    graph = graph_of(desk)
    return many_by_size(graph, list(graph), size)[size].get(desk.start(), 0)


def whole_tables(desk, size):
    """Return the tables of how many ways of up to so many words lead from the states to done ones."""
    need_desk(desk)
    need_size(size)
    return many_by_size(graph_of(desk), done_states(desk), size)


def many_whole(desk, size):
    """Return how many whole talks of so many words a desk has."""
    return whole_tables(desk, size)[size].get(desk.start(), 0)


def whole_at(desk, size, number):
    """Return the whole talk at a position in the ascending list of those of so many words."""
    tables = whole_tables(desk, size)
    if not is_count(number) or number >= tables[size].get(desk.start(), 0):
        raise InvalidCount(number)
    return way_at(graph_of(desk), desk.start(), tables, number)


def whole_place(desk, talk):
    """Return the position of a talk in the ascending list of the whole ones of its size, None if it is not whole."""
    if not is_whole(desk, talk):
        return None
    return place_of(graph_of(desk), desk.start(), whole_tables(desk, len(talk)), talk)
