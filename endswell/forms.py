"""Forms of plain values, which several modules look at."""

LETTERS = "abcdefghijklmnopqrstuvwxyz"
MOST_LETTERS = 8


def is_name(value):
    """Return whether any object has the form of a word, which is also that of a state's name."""
    if not isinstance(value, str) or not 1 <= len(value) <= MOST_LETTERS:
        return False
    return all([letter in LETTERS for letter in value])


def is_count(value):
    """Return whether any object is a count."""
    # True and False are integers for Python, but no counts
    return isinstance(value, int) and not isinstance(value, bool) and value >= 0


def is_names(value):
    """Return whether any object is a list of words, in any order."""
    return isinstance(value, list) and all([is_name(word) for word in value])


def is_ascending_names(value):
    """Return whether any object is an ascending list of words."""
    return is_names(value) and is_ascending(value)


def is_row(value):
    """Return whether any object has the form of a row; its goals may be any words."""
    if not isinstance(value, tuple) or len(value) != 2:
        return False
    kind, turns = value
    if not isinstance(turns, dict):
        return False
    if kind == "done":
        return len(turns) == 0
    if kind != "says" and kind != "hears":
        return False
    return len(turns) > 0 and all([is_name(word) and is_name(goal) for word, goal in turns.items()])


def is_state_of(book, value):
    """Return whether any object is a state of a book."""
    # what is no string might not be a key at all, so it is not looked up
    return isinstance(value, str) and value in book


def is_ascending(items):
    """Return whether a list of things that can be compared is ascending, without doubles."""
    return all([items[at] < items[at + 1] for at in range(len(items) - 1)])
