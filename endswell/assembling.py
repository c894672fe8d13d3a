"""Books put together: rows from nodes to kinds and turns, of which a desk is made.

A node is a tuple of a count, the mark of the book that stands there, and a state
of it; "" in the place of a state marks nodes that are in none of the books.
"""

from endswell.graphs import grown
from endswell.making import named_desk

END = (0, "")


def desk_of_rows(rows, start):
    """Return the desk whose states stand for the end and the nodes of rows that come from the start."""
    kinds = {node: rows[node][0] for node in rows}
    graph = {node: rows[node][1] for node in rows}
    kinds[END] = "done"
    graph[END] = {}
    return named_desk(kinds, graph, start)


def node_in(book, mark, state, end):
    """Return the node of a state of a book with a mark: the end if it is done."""
    return end if book[state][0] == "done" else (mark, state)


def place(rows, book, mark, end):
    """Put the rows of the states of a book that are not done into some rows; those that are become another node."""
    for state in book:
        kind, turns = book[state]
        if kind != "done":
            rows[(mark, state)] = (kind, {word: node_in(book, mark, goal, end) for word, goal in turns.items()})


def in_turn(book, start, after, after_start):
    """Return the desk that goes like a book, and where that is done like another one."""
    later = node_in(after, 1, after_start, END)
    rows = {}
    place(rows, book, 0, later)
    place(rows, after, 1, END)
    return desk_of_rows(rows, node_in(book, 0, start, later))


def choice_of(kind, books, starts):
    """Return the desk that chooses between words, and goes on behind each of them like its book from its start."""
    chosen = {}
    rows = {}
    for mark, word in enumerate(sorted(books)):
        place(rows, books[word], mark, END)
        chosen[word] = node_in(books[word], mark, starts[word], END)
    first = (1, "")
    rows[first] = (kind, chosen)
    return desk_of_rows(rows, first)


def rounds_of(kind, book, start, again, enough):
    """Return the desk that goes like a book, and where that is done chooses whether it goes so again."""
    asking = (1, "")
    first = node_in(book, 0, start, asking)
    rows = {asking: (kind, {again: first, enough: END})}
    place(rows, book, 0, asking)
    return desk_of_rows(rows, first)


def limited_of(book, start, again, enough, most):
    """Return the desk that goes like a book, and hears at most so many times that it is to go so again."""
    rows = {}
    for mark in range(most + 1):
        asking = (mark + 1, "")
        place(rows, book, mark, asking)
        heard = {enough: END}
        if mark < most:
            heard[again] = node_in(book, mark + 1, start, (mark + 2, ""))
        rows[asking] = ("hears", heard)
    return desk_of_rows(rows, node_in(book, 0, start, (1, "")))


def merged_of(books, first):
    """Return the desk that goes like two books at once, as far as they go alike."""
    graph = grown(merged_turns, books, [first])
    return named_desk({node: kind_in(books, node) for node in graph}, graph, first)


def kind_in(books, node):
    """Return the kind of a tuple of a state of each book, the first one's if there is one; one of them may be None."""
    return books[1][node[1]][0] if node[0] is None else books[0][node[0]][0]


def merged_turns(books, node):
    """Return the turns of a tuple of a state of each book, None for the one that is left behind."""
    one, other = node
    if one is None:
        return {word: (None, goal) for word, goal in books[1][other][1].items()}
    kind, turns = books[0][one]
    alone = {word: (goal, None) for word, goal in turns.items()}
    if other is None or books[1][other][0] != kind:
        return alone
    others = books[1][other][1]
    if kind == "says":
        return {word: (turns.get(word), others.get(word)) for word in sorted(set(list(turns) + list(others)))}
    both = {word: (turns[word], others[word]) for word in turns if word in others}
    return both if both else alone
