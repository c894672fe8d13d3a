"""Viable states and sayable words.

Rows are here like a book, but their hearing states may be left without any word.
"""

from endswell.desks import Desk, trimmed
from endswell.keeping import parted

ASKS = {"done": "always", "says": "nearer", "hears": "some"}


def viability(rows):
    """Return a tuple of the least ranks of the viable states and the least levels of all others."""
    graph = {state: rows[state][1] for state in rows}
    return parted(graph, {state: ASKS[rows[state][0]] for state in rows})


def viable_ranks(rows):
    """Return the dictionary from the viable states to their least ranks."""
    ranks, _ = viability(rows)
    return ranks


def sayable_row(row, ranks):
    """Return a row without the words that are heard and do not lead to a viable state, which has a rank."""
    kind, turns = row
    if kind != "hears":
        return row
    return kind, {word: turns[word] for word in turns if turns[word] in ranks}


def sayable_rows(rows, ranks):
    """Return all rows without the words that are heard and not sayable."""
    return {state: sayable_row(rows[state], ranks) for state in rows}


def hearing_within(book, words):
    """Return the rows of a book in which states hear no other words than these."""
    return {state: heard_row(book[state], words, True) for state in book}


def hearing_without(book, words):
    """Return the rows of a book in which states do not hear these words."""
    return {state: heard_row(book[state], words, False) for state in book}


def heard_row(row, words, listed):
    """Return a row that hears just those of its words that are listed, or those that are not."""
    kind, turns = row
    if kind != "hears":
        return row
    return kind, {word: turns[word] for word in turns if (word in words) == listed}


def spoken_of(rows, ranks, start):
    """Return the desk of the said and the sayable words, from a viable start on."""
    told = sayable_rows(rows, ranks)
    return trimmed(Desk({state: told[state] for state in told if state in ranks}, start))
