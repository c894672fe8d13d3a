"""Pairs of states of an elder and a newer desk that are held against one another.

Books is here a tuple of the rows of the elder one, with said and sayable words
alone, and the book of the newer one.
"""

from endswell.graphs import grown
from endswell.keeping import parted
from endswell.spoken import sayable_rows, viable_ranks


def lost_ask(books, pair):
    """Return what keeps a pair in a lost set, as endswell.keeping tells it: "always" if the pair is not matched."""
    elder_kind, elder_turns = books[0][pair[0]]
    newer_kind, newer_turns = books[1][pair[1]]
    if elder_kind != newer_kind:
        return "always"
    if elder_kind == "done":
        return "never"
    if elder_kind == "hears":
        return "some" if all([word in newer_turns for word in elder_turns]) else "always"
    if not all([word in elder_turns for word in newer_turns]):
        return "always"
    return "nearer" if len(newer_turns) == len(elder_turns) else "all"


def is_matched(books, pair):
    """Return whether a pair is matched."""
    return lost_ask(books, pair) != "always"


def step_pairs(books, pair):
    """Return the dictionary from the words of the steps of a matched pair, ascending, to the pairs behind them."""
    elder_kind, elder_turns = books[0][pair[0]]
    _, newer_turns = books[1][pair[1]]
    if not is_matched(books, pair):
        return {}
    words = elder_turns if elder_kind == "hears" else newer_turns
    return {word: (elder_turns[word], newer_turns[word]) for word in words}


def steps_from(books, pairs):
    """Return the graph of the steps through matched pairs from some pairs on."""
    return grown(step_pairs, books, pairs)


def lost_and_levels(books, links):
    """Return a tuple of the least ranks of the pairs that are in lost sets and the least levels of all others."""
    return parted(links, {pair: lost_ask(books, pair) for pair in links})


class Held:
    """Two desks held against one another, the elder one told by rows, and what comes of it from a first pair on."""

    def __init__(self, rows, book, first):
        ranks = viable_ranks(rows)
        self.viable = first[0] in ranks
        self.first = first
        self.books = (sayable_rows(rows, ranks), book)
        self.links = steps_from(self.books, [first])
        self.lost, self.levels = lost_and_levels(self.books, self.links)
