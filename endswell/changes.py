"""Changes of a book and its start: their form, whether they fit, and what they make."""

from endswell.forms import is_name, is_row

SIZES = {"add": 4, "drop": 3, "lead": 4, "put": 3, "out": 2, "begin": 2}


def is_change(value):
    """Return whether any object is a change by its form."""
    if not isinstance(value, tuple) or len(value) == 0 or not isinstance(value[0], str):
        return False
    if SIZES.get(value[0], 0) != len(value):
        return False
    if value[0] == "put":
        return is_name(value[1]) and is_row(value[2])
    return all([is_name(word) for word in value[1:]])


def add_fits(book, start, change):
    """Return whether a turn of a new word can be added to a state that is not done."""
    _, state, word, goal = change
    return state in book and book[state][0] != "done" and word not in book[state][1] and goal in book


def drop_fits(book, start, change):
    """Return whether a turn can be dropped, another one being left."""
    _, state, word = change
    return state in book and word in book[state][1] and len(book[state][1]) > 1


def lead_fits(book, start, change):
    """Return whether a turn can be led to another goal than its own."""
    _, state, word, goal = change
    return state in book and word in book[state][1] and book[state][1][word] != goal and goal in book


def put_fits(book, start, change):
    """Return whether a new state can be put in."""
    _, state, row = change
    return state not in book and all([goal in book or goal == state for goal in row[1].values()])


def out_fits(book, start, change):
    """Return whether a state can be taken out."""
    _, state = change
    if state not in book or state == start:
        return False
    return all([state not in leads_to(book[other]) for other in book if other != state])


def begin_fits(book, start, change):
    """Return whether a state can be the new start."""
    _, state = change
    return state in book and state != start


def leads_to(row):
    """Return the list of the goals of a row."""
    return list(row[1].values())


def with_turn(book, start, change):
    """Return the book with a turn added or led to another goal, and the start."""
    _, state, word, goal = change
    kind, turns = book[state]
    return {**book, state: (kind, {**turns, word: goal})}, start


def without_turn(book, start, change):
    """Return the book with a turn dropped, and the start."""
    _, state, word = change
    kind, turns = book[state]
    return {**book, state: (kind, {other: turns[other] for other in turns if other != word})}, start


def with_state(book, start, change):
    """Return the book with a state put in, and the start."""
    _, state, row = change
    return {**book, state: row}, start


def without_state(book, start, change):
    """Return the book with a state taken out, and the start."""
    _, state = change
    return {other: book[other] for other in book if other != state}, start


def with_start(book, start, change):
    """Return the book and the new start."""
    _, state = change
    return book, state


FITTING = {
    "add": add_fits,
    "drop": drop_fits,
    "lead": lead_fits,
    "put": put_fits,
    "out": out_fits,
    "begin": begin_fits,
}
MAKING = {
    "add": with_turn,
    "drop": without_turn,
    "lead": with_turn,
    "put": with_state,
    "out": without_state,
    "begin": with_start,
}


def change_fits(book, start, change):
    """Return whether a change, by its form, fits a book and its start."""
    fits = FITTING[change[0]]
    return fits(book, start, change)


def after_change(book, start, change):
    """Return a tuple of the book and the start that a change that fits makes."""
    make = MAKING[change[0]]
    return make(book, start, change)
