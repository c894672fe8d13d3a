"""Never stuck: whether a newer desk gets along with every desk with which an elder one does."""

from endswell.desks import Desk, turned
from endswell.facing import books_of, first_pair, never_stuck
from endswell.forms import is_ascending
from endswell.graphs import grown, node_behind, shortest_way
from endswell.pairs import is_pair_of
from endswell.stands import stands
from endswell.talks import is_talk

ORDERS = {(True, True): "both", (True, False): "safe", (False, True): "stands", (False, False): "neither"}


def is_fitting(books, pair):
    """Return whether a pair fits."""
    elder_kind, elder_turns = books[0][pair[0]]
    newer_kind, newer_turns = books[1][pair[1]]
    if elder_kind != newer_kind:
        return False
    if elder_kind == "hears":
        return all([word in newer_turns for word in elder_turns])
    return all([word in elder_turns for word in newer_turns])


def shared_steps(books, pair):
    """Return the dictionary from the words of the steps of a pair, whether or not it fits, to the pairs behind them."""
    elder_kind, elder_turns = books[0][pair[0]]
    newer_kind, newer_turns = books[1][pair[1]]
    if elder_kind != newer_kind:
        return {}
    return {word: (elder_turns[word], newer_turns[word]) for word in elder_turns if word in newer_turns}


def graph_of_steps(elder, newer):
    """Return a tuple of the books of two desks and the graph of the pairs to which steps lead from the starts."""
    books = books_of(elder, newer)
    return books, grown(shared_steps, books, [first_pair(elder, newer)])


def is_safe(elder, newer):
    """Return whether every desk that gets along with the elder desk gets along with the newer one."""
    return safe_pairs(elder, newer) is not None


def safe_pairs(elder, newer):
    """Return the ascending list of the pairs to which steps lead if all of them fit, otherwise None."""
    books, graph = graph_of_steps(elder, newer)
    return sorted(graph) if all([is_fitting(books, pair) for pair in graph]) else None


def is_safe_table(elder, newer, value):
    """Return whether any object is an ascending list of pairs that fit, the starts and all steps from them in it."""
    books = books_of(elder, newer)
    if not isinstance(value, list) or not all([is_pair_of(books, pair) for pair in value]) or not is_ascending(value):
        return False
    listed = {pair: True for pair in value}
    if first_pair(elder, newer) not in listed or not all([is_fitting(books, pair) for pair in value]):
        return False
    return all([later in listed for pair in value for later in shared_steps(books, pair).values()])


def unfit_talk(elder, newer):
    """Return a talk of as few words as can be by whose steps a pair comes that does not fit, None if there is none."""
    books, graph = graph_of_steps(elder, newer)
    return shortest_way(graph, first_pair(elder, newer), [pair for pair in graph if not is_fitting(books, pair)])


def is_unfit_talk(elder, newer, value):
    """Return whether any object is a talk by whose steps a pair comes that does not fit."""
    books, graph = graph_of_steps(elder, newer)
    if not is_talk(value):
        return False
    behind = node_behind(graph, first_pair(elder, newer), value)
    return behind is not None and not is_fitting(books, behind)


def sticking_desk(elder, newer):
    """Return a desk that gets along with the elder desk and not with the newer one, None if that is safe."""
    # the elder one turned about gets along with it, and tells of all that do so
    return None if is_safe(elder, newer) else turned(elder)


def is_sticking_desk(elder, newer, value):
    """Return whether any object is a desk that gets along with the elder desk and not with the newer one."""
    books_of(elder, newer)
    return isinstance(value, Desk) and never_stuck(elder, value) and not never_stuck(newer, value)


def both_orders(elder, newer):
    """Return "both", "safe", "stands" or "neither"."""
    return ORDERS[(is_safe(elder, newer), stands(elder, newer))]
