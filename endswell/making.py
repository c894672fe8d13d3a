"""Desks made of graphs whose nodes bear no names yet."""

from endswell.desks import Desk, trimmed
from endswell.forms import LETTERS


def name_of(number):
    """Return the word that is the name of a count; unlike counts have unlike names."""
    name = ""
    left = number
    while left > 0 or name == "":
        left, at = divmod(left, len(LETTERS))
        name = LETTERS[at] + name
    return name


def named_desk(kinds, graph, start):
    """Return the desk whose states stand for the nodes of a graph that come from the start, their kinds being told."""
    names = {node: name_of(at) for at, node in enumerate(graph)}
    book = {names[node]: (kinds[node], {word: names[goal] for word, goal in graph[node].items()}) for node in graph}
    return trimmed(Desk(book, names[start]))
