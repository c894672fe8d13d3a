"""Said and heard words of a book, books without some of them, and parts of a list."""


def words_at(book, kind):
    """Return the ascending list of the tuples of a state of a kind and one of its words."""
    return sorted([(state, word) for state in book if book[state][0] == kind for word in book[state][1]])


def book_without(book, kind, lot):
    """Return the book without a lot of words at states of a kind, None if such a state would be left without any."""
    left = {state: row_without(book[state], state, lot) for state in book}
    if any([left[state][0] == kind and len(left[state][1]) == 0 for state in left]):
        return None
    return left


def row_without(row, state, lot):
    """Return the row of a state without its words that are in a lot."""
    kind, turns = row
    return kind, {word: turns[word] for word in turns if (state, word) not in lot}


def all_parts(items):
    """Return the ascending list of all parts of an ascending list, which are ascending, too."""
    parts = [[]]
    for item in items:
        parts = parts + [part + [item] for part in parts]
    return sorted(parts)


def least_parts(items, helps, told):
    """Return the ascending list of the parts of an ascending list that help, while no other part within them does.

    helps(told, part) tells of a part, an ascending list too, whether it helps.
    """
    found = []
    parts = [[]]
    while parts:
        helping = [part for part in parts if helps(told, part)]
        longer = [part + [item] for part in parts for item in items if len(part) == 0 or part[-1] < item]
        found = found + helping
        # what holds a part that helps is never a least one, so it is not looked at
        parts = [part for part in longer if not any([holds(part, least) for least in found])]
    return sorted(found)


def greatest_of(parts):
    """Return those of some unlike parts that lie in no other one, in the order in which they were."""
    return [part for part in parts if not any([holds(other, part) for other in parts if len(other) > len(part)])]


def least_of(parts):
    """Return those of some unlike parts in which no other one lies, in the order in which they were."""
    return [part for part in parts if not any([holds(part, other) for other in parts if len(other) < len(part)])]


def holds(part, other):
    """Return whether all that is in another part is in this one, too."""
    return all([item in part for item in other])
