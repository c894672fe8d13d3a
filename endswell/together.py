"""Several desks at once: a common partner of them, and a stand-in for them.

A position is a tuple that has for each desk its state behind the talk, None if the
desk is out, that is if it cannot have had this talk. Books is a list of books or rows.
"""

from endswell.graphs import grown, words_to
from endswell.keeping import parted
from endswell.making import named_desk


def kind_at(books, position):
    """Return the kind of all states of a position, "" if they are of unlike kinds."""
    kinds = sorted({book[state][0] for book, state in zip(books, position) if state is not None})
    return kinds[0] if len(kinds) == 1 else ""


def moved(books, position, word):
    """Return the position behind a word; desks that have no turn of it are out."""
    return tuple([None if state is None else book[state][1].get(word) for book, state in zip(books, position)])


def turns_together(told, position):
    """Return the turns of a position: by words that all desks have where they are shared, else by those of any one.

    told is a tuple of the books and the kind of the states whose words are shared.
    """
    books, shared = told
    kind = kind_at(books, position)
    if kind == "":
        return {}
    all_turns = [book[state][1] for book, state in zip(books, position) if state is not None]
    words = sorted({word for turns in all_turns for word in turns})
    if kind == shared:
        words = [word for word in words if all([word in turns for turns in all_turns])]
    return {word: moved(books, position, word) for word in words}


def positions_from(books, first, shared):
    """Return a tuple of the graph of the positions from the first one on and the dictionary of their kinds."""
    graph = grown(turns_together, (books, shared), [first])
    return graph, {position: kind_at(books, position) for position in graph}


def links_in(graph, left):
    """Return the graph of the positions that are left."""
    return {position: {word: later for word, later in graph[position].items() if later in left} for position in left}


def common_partner_of(books, first, turned_kinds):
    """Return a partner of all desks that begin at the first position, None if there is none."""
    # a partner says what all desks hear that might sit there, and hears what any of them says
    graph, kinds = positions_from(books, first, "hears")
    left = {position: kinds[position] for position in graph if kinds[position] != ""}
    many = len(left) + 1
    while len(left) < many:
        many = len(left)
        for at in range(len(books)):
            left = with_an_end(graph, left, at)
    if first not in left:
        return None
    return named_desk({position: turned_kinds[left[position]] for position in left}, links_in(graph, left), first)


def with_an_end(graph, left, at):
    """Return those left that do not lead out by words of the desks, and from which the desk of a place can end."""
    inside = {position: True for position in left if position[at] is not None}
    least = words_to(links_in(graph, inside), [position for position in inside if left[position] == "done"])
    kept = {}
    for position in left:
        leads_out = left[position] == "says" and not all([later in left for later in graph[position].values()])
        if not leads_out and (position not in inside or position in least):
            kept[position] = left[position]
    return kept


def stand_in_of(rows, first):
    """Return a stand-in for viable desks that begin at the first position, None if there is none.

    rows is the list of their rows with said and sayable words alone.
    """
    # a stand-in says what all of them say, and hears what is sayable at any of them
    graph, kinds = positions_from(rows, first, "says")
    left = {position: kinds[position] for position in graph if kinds[position] != ""}
    out = failing_in(rows, graph, left)
    while out:
        left = {position: left[position] for position in left if position not in out}
        out = failing_in(rows, graph, left)
    if first not in left:
        return None
    return named_desk(left, links_in(graph, left), first)


def failing_in(rows, graph, left):
    """Return the dictionary of True from positions at which nothing that is left can stand for all desks."""
    links = links_in(graph, left)
    hearing = [position for position in left if left[position] == "hears"]
    out = {position: True for position in hearing if len(links[position]) < len(graph[position])}
    # those that say and are left without a word are among the lost ones
    return out if out else lost_in(rows, links, left)


def lost_in(rows, links, left):
    """Return the dictionary of True from the positions from which a partner of some desk can keep the end away."""
    nodes = [(at, position) for position in left for at in range(len(rows)) if position[at] is not None]
    graph = {}
    asks = {}
    for at, position in nodes:
        onward = {word: (at, later) for word, later in links[position].items() if later[at] is not None}
        graph[(at, position)] = onward
        asks[(at, position)] = lost_ask(left[position], onward, rows[at][position[at]][1])
    ranks, _ = parted(graph, asks)
    return {position: True for _, position in ranks}


def lost_ask(kind, onward, turns):
    """Return what keeps a position from its end, as desks that are held against one another are."""
    if kind == "says":
        return "nearer" if len(onward) == len(turns) else "all"
    return "some" if kind == "hears" else "never"
