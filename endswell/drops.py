"""Said words of a book, books without some of them, and least parts of a list."""


def said_in(book):
    """Return the ascending list of the tuples of a state that says and one of its words."""
    return sorted([(state, word) for state in book if book[state][0] == "says" for word in book[state][1]])


def without_said(book, lot):
    """Return the book without the said words of a lot, None if some state would be left without a word."""
    left = {state: row_without(book[state], state, lot) for state in book}
    if any([left[state][0] == "says" and len(left[state][1]) == 0 for state in left]):
        return None
    return left


def row_without(row, state, lot):
    """Return the row of a state without its said words that are in a lot."""
    kind, turns = row
    return kind, {word: turns[word] for word in turns if kind != "says" or (state, word) not in lot}


def least_parts(items, helps, told):
    """Return the ascending list of the parts of an ascending list that help, while no other part within them does.

    helps(told, part) tells of a part, an ascending list too, whether it helps.
    """
    found = []
    parts = [[]]
    while parts:
        helping = [part for part in parts if helps(told, part)]
        longer = [part + [item] for part in parts for item in items if len(part) == 0 or part[-1] < item]
        found = found + helping
        # what holds a part that helps is never a least one, so it is not looked at
        parts = [part for part in longer if not any([holds(part, least) for least in found])]
    return sorted(found)


def holds(part, other):
    """Return whether all that is in another part is in this one, too."""
    return all([item in part for item in other])
