"""Who has a partner: viable states, papers that show it, sayable words, common partners, and rescues."""

from endswell.desks import TURNED, Desk, book_with, need_desk, need_some_desks
from endswell.drops import book_without, least_parts, words_at
from endswell.errors import Hopeless
from endswell.facing import end_well
from endswell.forms import is_count, is_state_of
from endswell.graphs import shortest_way
from endswell.spoken import sayable_row, sayable_rows, spoken_of, viability, viable_ranks
from endswell.talks import done_states, is_talk_as_short
from endswell.together import common_partner_of


def need_hopeful(desk):
    """Raise InvalidDesk unless any object is a desk, Hopeless if it is one that has no partner."""
    if not has_partner(desk):
        raise Hopeless(desk)


def is_partner(desk, value):
    """Return whether any object is a partner of a desk."""
    return isinstance(value, Desk) and end_well(desk, value)


def viable_states(desk):
    """Return the ascending list of the viable states."""
    need_desk(desk)
    return sorted(viable_ranks(desk.book()))


def has_partner(desk):
    """Return whether a desk has a partner."""
    return desk_rank(desk) is not None


def desk_rank(desk):
    """Return the least rank of the start of a desk, None if it is not viable."""
    need_desk(desk)
    return viable_ranks(desk.book()).get(desk.start())


def is_paper(book, state, value):
    """Return whether any object is a dictionary from states of a book, one state among them, to counts."""
    if not isinstance(value, dict) or state not in value:
        return False
    return all([is_state_of(book, other) and is_count(value[other]) for other in value])


def rank_paper(desk, state):
    """Return a rank paper for a state, None if there is none."""
    ranks = viable_ranks(book_with(desk, state))
    if state not in ranks:
        return None
    return {other: ranks[other] for other in sorted(ranks)}


def is_rank_paper(desk, state, value):
    """Return whether any object is a rank paper for a state."""
    book = book_with(desk, state)
    return is_paper(book, state, value) and all([is_ranked(book[other], value, value[other]) for other in value])


def is_ranked(row, ranks, own):
    """Return whether a row may have its own rank, the ranks of other states being told."""
    kind, turns = row
    goals = list(turns.values())
    if kind == "done":
        return True
    if kind == "says" and not all([goal in ranks for goal in goals]):
        return False
    return any([ranks[goal] < own for goal in goals if goal in ranks])


def level_paper(desk, state):
    """Return a level paper for a state, None if there is none."""
    _, levels = viability(book_with(desk, state))
    if state not in levels:
        return None
    return {other: levels[other] for other in sorted(levels)}


def is_level_paper(desk, state, value):
    """Return whether any object is a level paper for a state."""
    book = book_with(desk, state)
    return is_paper(book, state, value) and all([is_levelled(book[other], value, value[other]) for other in value])


def is_levelled(row, levels, own):
    """Return whether a row may have its own level, the levels of other states being told."""
    kind, turns = row
    goals = list(turns.values())
    if kind == "done":
        return False
    if kind == "says" and any([levels[goal] < own for goal in goals if goal in levels]):
        return True
    return all([goal in levels and levels[goal] <= own for goal in goals])


def sayable_words(desk, state):
    """Return the ascending list of the words said or sayable at a state."""
    book = book_with(desk, state)
    _, turns = sayable_row(book[state], viable_ranks(book))
    return list(turns)


def spoken_desk(desk):
    """Return the desk without words that are not sayable, and without states that are not come to then."""
    need_hopeful(desk)
    book = desk.book()
    return spoken_of(book, viable_ranks(book), desk.start())


def fewest_words(desk, state):
    """Return the least number of words after which the desk and some partner can be done, None if it is not viable."""
    return viable_ranks(book_with(desk, state)).get(state)


def sayable_graph(desk):
    """Return the graph of the states of a desk by said and sayable words."""
    book = desk.book()
    rows = sayable_rows(book, viable_ranks(book))
    return {state: rows[state][1] for state in rows}


def ending_talk(desk, state):
    """Return a talk of the fewest words that leads from a state to a done one, None if the state is not viable."""
    if fewest_words(desk, state) is None:
        return None
    return shortest_way(sayable_graph(desk), state, done_states(desk))


def is_ending_talk(desk, state, value):
    """Return whether any object is a talk of the fewest words that leads from a state to a done one."""
    shortest = ending_talk(desk, state)
    return is_talk_as_short(sayable_graph(desk), state, done_states(desk), shortest, value)


def have_common(desks):
    """Return whether some desk is a partner of each of several desks."""
    return common_partner(desks) is not None


def common_partner(desks):
    """Return a partner of each of several desks, None if there is none."""
    need_some_desks(desks)
    first = tuple([desk.start() for desk in desks])
    return common_partner_of([desk.book() for desk in desks], first, dict(TURNED))


def is_common_partner(desks, value):
    """Return whether any object is a partner of each of several desks."""
    need_some_desks(desks)
    return all([is_partner(desk, value) for desk in desks])


def rescues(desk):
    """Return the ascending list of the least lots of said words without which the desk has a partner."""
    need_desk(desk)
    book = desk.book()
    return least_parts(words_at(book, "says"), rescues_without, (book, desk.start()))


def rescues_without(told, lot):
    """Return whether a desk, told by its book and its start, has a partner without a lot, which is droppable."""
    book, start = told
    left = book_without(book, "says", lot)
    return left is not None and start in viable_ranks(left)
