"""States that go on alike, made one. The words of each state of a book are ascending here."""


def classes_of(book):
    """Return the dictionary from the states of a book to counts, the same for just those that go on alike."""
    classes = {state: 0 for state in book}
    many = 0
    told = numbered({state: (book[state][0], tuple(book[state][1])) for state in book})
    while len(set(list(told.values()))) > many:
        classes = told
        many = len(set(list(classes.values())))
        told = numbered({state: mark_of(book[state], classes, state) for state in book})
    return classes


def mark_of(row, classes, state):
    """Return what tells a state from others: its own class, and those to which its words lead."""
    _, turns = row
    return classes[state], tuple([classes[goal] for goal in turns.values()])


def numbered(marks):
    """Return the dictionary from states to counts, the same for just those of the same mark."""
    numbers = {}
    for state in marks:
        if marks[state] not in numbers:
            numbers[marks[state]] = len(numbers)
    return {state: numbers[marks[state]] for state in marks}


def merged_book(book):
    """Return the book in which states that go on alike are the first of them, with the dictionary to these."""
    classes = classes_of(book)
    firsts = {}
    for state in book:
        firsts.setdefault(classes[state], state)
    names = {state: firsts[classes[state]] for state in book}
    rows = {}
    for state in firsts.values():
        kind, turns = book[state]
        rows[state] = (kind, {word: names[goal] for word, goal in turns.items()})
    return rows, names
