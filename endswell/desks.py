"""Desks: words, books, and what is made of one desk."""

from endswell.changes import after_change, change_fits, is_change
from endswell.errors import InvalidBook, InvalidChange, InvalidChanges, InvalidDesk, InvalidDesks, InvalidNames
from endswell.errors import InvalidState
from endswell.forms import is_name, is_row, is_state_of
from endswell.graphs import nodes_from

TURNED = {"says": "hears", "hears": "says", "done": "done"}


def is_word(value):
    """Return whether any object is a word."""
    return is_name(value)


def is_book(value):
    """Return whether any object is a book."""
    if not isinstance(value, dict) or len(value) == 0:
        return False
    if not all([is_name(state) and is_row(value[state]) for state in value]):
        return False
    return all([goal in value for state in value for goal in value[state][1].values()])


def ordered_turns(turns):
    """Return a copy of turns, words ascending."""
    return {word: turns[word] for word in sorted(turns)}


def ordered_book(book):
    """Return a copy of a book, states and words ascending."""
    return {state: (book[state][0], ordered_turns(book[state][1])) for state in sorted(book)}


class Desk:
    """A book and the state in which it starts; it never changes."""

    def __init__(self, book, start):
        if not is_book(book):
            raise InvalidBook(book)
        if not is_state_of(book, start):
            raise InvalidState(start)
        self._book = ordered_book(book)
        self._start = start

    def __eq__(self, other):
        return isinstance(other, Desk) and self._book == other._book and self._start == other._start

    def book(self):
        """Return the book, states and words ascending."""
        return ordered_book(self._book)

    def start(self):
        """Return the start."""
        return self._start


def need_desk(desk):
    """Raise InvalidDesk unless any object is a desk."""
    if not isinstance(desk, Desk):
        raise InvalidDesk(desk)


def need_some_desks(desks):
    """Raise InvalidDesks unless any object is a list of desks that is not empty."""
    if not isinstance(desks, list) or len(desks) == 0 or not all([isinstance(desk, Desk) for desk in desks]):
        raise InvalidDesks(desks)


def need_changes(changes):
    """Raise InvalidChanges unless any object is a list of changes by their form."""
    if not isinstance(changes, list) or not all([is_change(change) for change in changes]):
        raise InvalidChanges(changes)


def book_with(desk, state):
    """Return the book of a desk; raise InvalidDesk, or InvalidState unless the state is in it."""
    need_desk(desk)
    book = desk.book()
    if not is_state_of(book, state):
        raise InvalidState(state)
    return book


def graph_of(desk):
    """Return the graph of a desk: the dictionary from its states to their turns, all ascending."""
    book = desk.book()
    return {state: book[state][1] for state in book}


def states_of(desk):
    """Return the ascending list of the states."""
    need_desk(desk)
    return list(desk.book())


def kind_of(desk, state):
    """Return "says", "hears" or "done"."""
    book = book_with(desk, state)
    return book[state][0]


def turns_of(desk, state):
    """Return the dictionary of turns of a state, words ascending."""
    book = book_with(desk, state)
    return book[state][1]


def words_of(desk):
    """Return the ascending list of all words of the turns of a desk."""
    need_desk(desk)
    graph = graph_of(desk)
    return sorted({word for state in graph for word in graph[state]})


def changed(desk, change):
    """Return the desk with a change made."""
    need_desk(desk)
    if not is_change(change):
        raise InvalidChange(change)
    return with_change(desk, change)


def changed_by(desk, changes):
    """Return the desk with a list of changes made, one after the other."""
    need_desk(desk)
    need_changes(changes)
    made = desk
    for change in changes:
        made = with_change(made, change)
    return made


def with_change(desk, change):
    """Return the desk with a change made that is one by its form; raise InvalidChange unless it fits."""
    book = desk.book()
    if not change_fits(book, desk.start(), change):
        raise InvalidChange(change)
    new_book, new_start = after_change(book, desk.start(), change)
    return Desk(new_book, new_start)


def come_to(desk):
    """Return the ascending list of the states that are come to."""
    need_desk(desk)
    return sorted(nodes_from(graph_of(desk), desk.start()))


def trimmed(desk):
    """Return the desk without the states that are not come to."""
    states = come_to(desk)
    book = desk.book()
    return Desk({state: book[state] for state in states}, desk.start())


def turned(desk):
    """Return the desk that hears what this one says and says what it hears."""
    need_desk(desk)
    book = desk.book()
    return Desk({state: (TURNED[book[state][0]], book[state][1]) for state in book}, desk.start())


def are_new_names(book, names):
    """Return whether any object is a dictionary from just the states of a book to unlike words."""
    if not isinstance(names, dict) or len(names) != len(book):
        return False
    if not all([state in names and is_name(names[state]) for state in book]):
        return False
    return len(set(list(names.values()))) == len(book)


def renamed_row(row, names):
    """Return a row with its goals exchanged by a dictionary."""
    kind, turns = row
    return kind, {word: names[turns[word]] for word in turns}


def renamed(desk, names):
    """Return the desk with its states' names exchanged by a dictionary."""
    need_desk(desk)
    book = desk.book()
    if not are_new_names(book, names):
        raise InvalidNames(names)
    return Desk({names[state]: renamed_row(book[state], names) for state in book}, names[desk.start()])


def begun(desk, state):
    """Return the desk that has the same book and starts at a state."""
    return Desk(book_with(desk, state), state)
