"""The order of desks: which stands for which, testers, the least desk with the same partners, and stand-ins."""

from endswell.desks import Desk, need_some_desks, states_of, turned
from endswell.facing import books_of, first_pair
from endswell.forms import is_ascending, is_count
from endswell.graphs import grown, words_to
from endswell.making import named_desk
from endswell.merging import merged_book
from endswell.pairs import is_pair_of
from endswell.rings import fooling_graph, is_ring, is_split_in, ring_of, split_in
from endswell.spoken import sayable_rows, viable_ranks
from endswell.stands import spoiler, stands
from endswell.steps import lost_and_levels, steps_from
from endswell.talks import is_talk, state_had
from endswell.together import stand_in_of
from endswell.viable import has_partner, is_partner, spoken_desk

NAMES = {(True, True): "same", (True, False): "forth", (False, True): "back", (False, False): "apart"}


def standing_from(elder, newer, states):
    """Return the ascending list of the pairs of some states of the elder desk from which the newer one stands."""
    book, newer_book = books_of(elder, newer)
    ranks = viable_ranks(book)
    books = (sayable_rows(book, ranks), newer_book)
    pairs = [(state, other) for state in sorted(states) for other in newer_book]
    # what is not viable has no partner that could be spoilt
    links = steps_from(books, [pair for pair in pairs if pair[0] in ranks])
    lost, _ = lost_and_levels(books, links)
    spoilt = words_to(links, list(lost))
    return [pair for pair in pairs if pair not in spoilt]


def standing_pairs(elder, newer):
    """Return the ascending list of all pairs of states such that the newer desk stands if both begin there."""
    book, _ = books_of(elder, newer)
    return standing_from(elder, newer, list(book))


def going_on(elder, newer, talk):
    """Return the ascending list of the states at which the newer desk may go on behind a talk of the elder one."""
    books_of(elder, newer)
    return [own for _, own in standing_from(elder, newer, [state_had(elder, talk)])]


def order_between(one, other):
    """Return "same", "forth", "back" or "apart"."""
    return NAMES[(stands(one, other), stands(other, one))]


def same_partners(one, other):
    """Return whether two desks have the same partners."""
    return order_between(one, other) == "same"


def parting_partner(one, other):
    """Return a partner of just one of two desks, None if there is none."""
    spoiling = spoiler(one, other)
    if spoiling is None:
        spoiling = spoiler(other, one)
    return None if spoiling is None else spoiling[0]


def is_parting_partner(one, other, value):
    """Return whether any object is a partner of just one of two desks."""
    books_of(one, other)
    return is_partner(one, value) != is_partner(other, value)


def is_alike(rows, pair):
    """Return whether both states of a pair are of one kind and have the same words."""
    one_kind, one_turns = rows[0][pair[0]]
    other_kind, other_turns = rows[1][pair[1]]
    return one_kind == other_kind and list(one_turns) == list(other_turns)


def alike_turns(rows, pair):
    """Return the pairs behind the words of a pair, none if its states are not alike."""
    one_turns, other_turns = rows[0][pair[0]][1], rows[1][pair[1]][1]
    return {word: (one_turns[word], other_turns[word]) for word in one_turns if is_alike(rows, pair)}


def rows_alone(desk):
    """Return the rows of a desk with said and sayable words alone."""
    book = desk.book()
    return sayable_rows(book, viable_ranks(book))


def likeness(one, other):
    """Return a table of likeness, None if there is none."""
    books_of(one, other)
    if not has_partner(one) and not has_partner(other):
        return []
    rows = (rows_alone(one), rows_alone(other))
    graph = grown(alike_turns, rows, [first_pair(one, other)])
    return sorted(graph) if all([is_alike(rows, pair) for pair in graph]) else None


def is_likeness(one, other, value):
    """Return whether any object is a table of likeness."""
    books = books_of(one, other)
    if not isinstance(value, list) or not all([is_pair_of(books, pair) for pair in value]) or not is_ascending(value):
        return False
    if not has_partner(one) and not has_partner(other):
        return len(value) == 0
    rows = (rows_alone(one), rows_alone(other))
    listed = {pair: True for pair in value}
    if first_pair(one, other) not in listed or not all([is_alike(rows, pair) for pair in value]):
        return False
    return all([later in listed for pair in value for later in alike_turns(rows, pair).values()])


def tester(desk):
    """Return the spoken desk turned about."""
    return turned(spoken_desk(desk))


def one_tells(desk):
    """Return whether every desk that ends well with the tester stands for the desk."""
    return choice_ring(desk) is None


def fooling_desk(desk):
    """Return a desk that ends well with the tester and does not stand for the desk, None if there is none."""
    found = choice_ring(desk)
    if found is None:
        return None
    talk, ring = found
    book = spoken_desk(desk).book()
    graph, first = fooling_graph(book, desk.start(), talk, ring)
    return named_desk({node: book[node[0]][0] for node in graph}, graph, first)


def is_fooling_desk(desk, value):
    """Return whether any object is a desk that ends well with the tester and does not stand for the desk."""
    return is_partner(tester(desk), value) and not stands(desk, value)


def choice_ring(desk):
    """Return a choice ring, None if there is none."""
    return ring_of(spoken_desk(desk).book(), desk.start())


def is_choice_ring(desk, value):
    """Return whether any object is a choice ring."""
    book = spoken_desk(desk).book()
    if not isinstance(value, tuple) or len(value) != 2:
        return False
    talk, ring = value
    return is_talk(talk) and is_talk(ring) and is_ring(book, desk.start(), talk, ring)


def split_of(desk):
    """Return a split, None if there is none."""
    return split_in(spoken_desk(desk).book()) if one_tells(desk) else None


def is_split(desk, value):
    """Return whether any object is a split."""
    book = spoken_desk(desk).book()
    if not isinstance(value, dict) or len(value) != len(book):
        return False
    if not all([state in value and is_count(value[state]) for state in book]):
        return False
    return is_split_in(book, value)


def least_desk(desk):
    """Return a desk with the same partners that has as few states as can be."""
    if not has_partner(desk):
        return endless_desk()
    rows, names = merged_book(spoken_desk(desk).book())
    return Desk(rows, names[desk.start()])


def endless_desk():
    """Return a desk of one state that never comes to an end."""
    return Desk({"a": ("says", {"a": "a"})}, "a")


def is_least_desk(desk, value):
    """Return whether any object is a desk with the same partners that has as few states as can be."""
    least = least_desk(desk)
    if not isinstance(value, Desk) or len(states_of(value)) != len(states_of(least)):
        return False
    return same_partners(desk, value)


def stand_in(desks):
    """Return a desk that stands for each of several, and for which all others that do so stand, None if none does."""
    need_some_desks(desks)
    # great desks that go round may have many more positions together than what is least of them
    least = [least_desk(desk) for desk in desks if has_partner(desk)]
    if len(least) == 0:
        return endless_desk()
    return stand_in_of([desk.book() for desk in least], tuple([desk.start() for desk in least]))


def is_stand_in(desks, value):
    """Return whether any object is a desk that stands for each of several, as all others that do so stand for it."""
    found = stand_in(desks)
    return found is not None and isinstance(value, Desk) and same_partners(found, value)
