"""Put together: desks one behind the other, choices, rounds, frames, and whether the order is kept in them."""

from endswell.assembling import choice_of, in_turn, limited_of, merged_of, rounds_of
from endswell.desks import Desk, begun, come_to, graph_of, need_desk, trimmed
from endswell.errors import InvalidArms, InvalidFrame, InvalidState, InvalidWord
from endswell.facing import books_of, first_pair
from endswell.forms import is_name
from endswell.graphs import grown, nodes_from, shortest_way
from endswell.orders import alike_turns, is_alike
from endswell.stands import stands
from endswell.talks import done_states, is_talk, need_size, state_behind


def then(first, second):
    """Return a desk that goes like the first one, and where that is done like the second one."""
    book, after = books_of(first, second)
    return in_turn(book, first.start(), after, second.start())


def need_arms(arms):
    """Raise InvalidArms unless any object is a dictionary, not empty, from words to desks."""
    if not is_choice(arms) or not all([isinstance(desk, Desk) for desk in arms.values()]):
        raise InvalidArms(arms)


def is_choice(value):
    """Return whether any object is a dictionary, not empty, from words to anything."""
    return isinstance(value, dict) and len(value) > 0 and all([is_name(word) for word in value])


def choice(kind, arms):
    """Return a desk that says or hears the words of arms, and goes on behind each like its desk."""
    return choice_of(kind, {word: arms[word].book() for word in arms}, {word: arms[word].start() for word in arms})


def said_choice(arms):
    """Return a desk that says the words of arms, and goes on behind each like its desk."""
    need_arms(arms)
    return choice("says", arms)


def heard_choice(arms):
    """Return a desk that hears the words of arms, and goes on behind each like its desk."""
    need_arms(arms)
    return choice("hears", arms)


def merged(first, second):
    """Return a desk that says what either of two says, and hears what both hear, as long as they are of one kind."""
    return merged_of(books_of(first, second), first_pair(first, second))


def need_unlike(again, enough):
    """Raise InvalidWord unless two objects are unlike words, one by one."""
    if not is_name(again):
        raise InvalidWord(again)
    if not is_name(enough) or enough == again:
        raise InvalidWord(enough)


def said_rounds(desk, again, enough):
    """Return a desk that goes like a desk, and where that is done says whether it begins again."""
    need_desk(desk)
    need_unlike(again, enough)
    return rounds_of("says", desk.book(), desk.start(), again, enough)


def heard_rounds(desk, again, enough):
    """Return a desk that goes like a desk, and where that is done hears whether it begins again."""
    need_desk(desk)
    need_unlike(again, enough)
    return rounds_of("hears", desk.book(), desk.start(), again, enough)


def limited_rounds(desk, again, enough, most_rounds):
    """Return heard rounds in which the word to begin again is heard at most so many times."""
    need_desk(desk)
    need_unlike(again, enough)
    need_size(most_rounds)
    return limited_of(desk.book(), desk.start(), again, enough, most_rounds)


def pieces_in(value):
    """Return the list of what stands in the places of pieces, None if any object has not the form of such a tuple."""
    if not isinstance(value, tuple) or len(value) == 0:
        return None
    word = value[0]
    if word == "then" and len(value) == 3:
        return [value[1], value[2]]
    if word in ("says", "hears") and len(value) == 2 and is_choice(value[1]):
        return list(value[1].values())
    if word in ("said rounds", "heard rounds") and len(value) == 4:
        unlike = is_name(value[2]) and is_name(value[3]) and value[2] != value[3]
        return [value[1]] if unlike else None
    return None


def places_in(value):
    """Return how many places stand in any object, None if it is no piece."""
    if value is None:
        return 1
    if isinstance(value, Desk):
        return 0
    pieces = pieces_in(value)
    if pieces is None:
        return None
    many = [places_in(piece) for piece in pieces]
    return None if any([each is None for each in many]) else sum(many)


def is_frame(value):
    """Return whether any object is a frame."""
    return places_in(value) == 1


def need_frame(frame):
    """Raise InvalidFrame unless any object is a frame."""
    if not is_frame(frame):
        raise InvalidFrame(frame)


def filled(frame, desk):
    """Return a desk that goes like the frame with a desk at its place."""
    need_frame(frame)
    need_desk(desk)
    return put_together(frame, desk)


def put_together(piece, desk):
    """Return a desk that goes like a piece with a desk at each place."""
    if piece is None:
        return desk
    if isinstance(piece, Desk):
        return piece
    word = piece[0]
    if word == "then":
        return then(put_together(piece[1], desk), put_together(piece[2], desk))
    if word == "says" or word == "hears":
        return choice(word, {arm: put_together(piece[1][arm], desk) for arm in piece[1]})
    if word == "said rounds":
        return said_rounds(put_together(piece[1], desk), piece[2], piece[3])
    return heard_rounds(put_together(piece[1], desk), piece[2], piece[3])


def stands_in(frame, elder, newer):
    """Return whether the frame with the newer desk stands for the frame with the elder one."""
    need_frame(frame)
    books_of(elder, newer)
    return stands(put_together(frame, elder), put_together(frame, newer))


def told_pair():
    """Return a tuple of two desks of which the second one stands for the first one, but not in all frames."""
    two = Desk({"s": ("says", {"a": "t", "b": "t"}), "t": ("done", {})}, "s")
    one = Desk({"s": ("says", {"a": "t"}), "t": ("done", {})}, "s")
    return two, one


def is_keeping(frame):
    """Return whether any newer desk that stands for an elder one does so in the frame, too."""
    return breaking_pair(frame) is None


def breaking_pair(frame):
    """Return a tuple of two desks of which the second one stands for the first one, but not in the frame, or None."""
    # if any two are such, then these are
    elder, newer = told_pair()
    return None if stands_in(frame, elder, newer) else (elder, newer)


def is_breaking_pair(frame, value):
    """Return whether any object is a tuple of two desks, the second standing for the first, but not in the frame."""
    need_frame(frame)
    if not isinstance(value, tuple) or len(value) != 2:
        return False
    elder, newer = value
    if not isinstance(elder, Desk) or not isinstance(newer, Desk):
        return False
    return stands(elder, newer) and not stands_in(frame, elder, newer)


def waists(desk):
    """Return the ascending list of the states that stand on every row of words from the start to a done state."""
    states = come_to(desk)
    graph = graph_of(desk)
    done = [state for state in done_states(desk) if state in states]
    return [state for state in states if done and is_waist(graph, desk.start(), done, state)]


def is_waist(graph, start, done, state):
    """Return whether no done state is come to without a state."""
    if state == start:
        return True
    without = {other: {word: goal for word, goal in graph[other].items() if goal != state} for other in graph}
    reached = nodes_from(without, start)
    return not any([goal in reached for goal in done])


def cut_at(desk, state):
    """Return a tuple of two desks that, one behind the other, go like the desk, the first one done at a waist."""
    if state not in waists(desk):
        raise InvalidState(state)
    until = Desk({**desk.book(), state: ("done", {})}, desk.start())
    return trimmed(until), begun(desk, state)


def alike_graph(first, second):
    """Return a tuple of the books of two desks and the graph of the pairs to which they go alike."""
    books = books_of(first, second)
    return books, grown(alike_turns, books, [first_pair(first, second)])


def are_alike(first, second):
    """Return whether two desks go alike step by step."""
    return parting_talk(first, second) is None


def parting_talk(first, second):
    """Return a shortest talk that both have and behind which they are not alike, None if they go alike."""
    books, graph = alike_graph(first, second)
    return shortest_way(graph, first_pair(first, second), [pair for pair in graph if not is_alike(books, pair)])


def is_parting_talk(first, second, value):
    """Return whether any object is a talk that both have and behind which they are not alike."""
    books = books_of(first, second)
    if not is_talk(value):
        return False
    behind = (state_behind(first, value), state_behind(second, value))
    return behind[0] is not None and behind[1] is not None and not is_alike(books, behind)
