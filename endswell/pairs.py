"""Pairs of states of two books that face one another; books is always a tuple of the two."""

from endswell.forms import is_ascending, is_state_of
from endswell.graphs import grown


def is_pair_of(books, value):
    """Return whether any object is a pair of states of two books."""
    if not isinstance(value, tuple) or len(value) != 2:
        return False
    return is_state_of(books[0], value[0]) and is_state_of(books[1], value[1])


def is_ended(books, pair):
    """Return whether both states of a pair are done."""
    return books[0][pair[0]][0] == "done" and books[1][pair[1]][0] == "done"


def is_stuck(books, pair):
    """Return whether a pair is neither ended nor goes on."""
    return not is_ended(books, pair) and len(next_of(books, pair)) == 0


def next_of(books, pair):
    """Return the dictionary from the words, ascending, to the next pairs; it is empty if the pair does not go on."""
    one_kind, one_turns = books[0][pair[0]]
    other_kind, other_turns = books[1][pair[1]]
    if (one_kind, other_kind) == ("says", "hears"):
        said, heard = one_turns, other_turns
    elif (one_kind, other_kind) == ("hears", "says"):
        said, heard = other_turns, one_turns
    else:
        return {}
    if not all([word in heard for word in said]):
        return {}
    return {word: (one_turns[word], other_turns[word]) for word in said}


def pair_after(books, pair, words):
    """Return the pair to which words lead from a pair, None if they do not lead on."""
    behind = pair
    for word in words:
        coming = next_of(books, behind)
        if word not in coming:
            return None
        behind = coming[word]
    return behind


def links_from(books, pair):
    """Return the graph of all pairs that can be come to from a pair: from each one to its next pairs."""
    return grown(next_of, books, [pair])


def ended_in(books, links):
    """Return the list of the ended pairs of a graph of pairs."""
    return [pair for pair in links if is_ended(books, pair)]


def stuck_in(books, links):
    """Return the list of the stuck pairs of a graph of pairs."""
    return [pair for pair in links if is_stuck(books, pair)]


def is_closed_list(books, value):
    """Return whether any object is an ascending list, not empty, of pairs, none ended, with their next pairs."""
    if not isinstance(value, list) or len(value) == 0:
        return False
    if not all([is_pair_of(books, pair) for pair in value]) or not is_ascending(value):
        return False
    listed = {pair: True for pair in value}
    for pair in value:
        if is_ended(books, pair):
            return False
        if not all([later in listed for later in next_of(books, pair).values()]):
            return False
    return True
