"""Lots of words that are dropped, lots of changes, and which of them spoil some partner of the desk."""

from endswell.changes import after_change, change_fits
from endswell.desks import Desk, need_changes, need_desk
from endswell.drops import all_parts, book_without, greatest_of, least_of, least_parts, words_at
from endswell.errors import InvalidLot
from endswell.forms import is_ascending, is_count, is_state_of
from endswell.graphs import nodes_from
from endswell.spoken import sayable_row, viable_ranks
from endswell.stands import spoiler, stands
from endswell.viable import has_partner, is_partner, sayable_graph


def said_words(desk):
    """Return the ascending list of all said words."""
    need_desk(desk)
    return words_at(desk.book(), "says")


def heard_words(desk):
    """Return the ascending list of all heard words."""
    need_desk(desk)
    return words_at(desk.book(), "hears")


def is_word_at(book, kind, value):
    """Return whether any object is a tuple of a state of a kind and one of its words."""
    if not isinstance(value, tuple) or len(value) != 2 or not is_state_of(book, value[0]):
        return False
    state, word = value
    # what is no string might not be a key at all, so it is not looked up
    return book[state][0] == kind and isinstance(word, str) and word in book[state][1]


def desk_without(desk, kind, value):
    """Return the desk without a list of words at states of a kind.

    None is returned if any object is no ascending list of such words, or holds all words of a state.
    """
    book = desk.book()
    if not isinstance(value, list) or not all([is_word_at(book, kind, item) for item in value]):
        return None
    if not is_ascending(value):
        return None
    left = book_without(book, kind, {item: True for item in value})
    return None if left is None else Desk(left, desk.start())


def dropped(desk, lot):
    """Return the desk without the words of a lot."""
    need_desk(desk)
    without = desk_without(desk, "says", lot)
    if without is None:
        raise InvalidLot(lot)
    return without


def is_harmless(desk, value):
    """Return whether any object is a droppable lot such that the desk without it stands for the desk."""
    need_desk(desk)
    without = desk_without(desk, "says", value)
    return without is not None and stands(desk, without)


def droppable_lots(desk):
    """Return the ascending list of the droppable lots."""
    return [lot for lot in all_parts(said_words(desk)) if desk_without(desk, "says", lot) is not None]


def harmless_lots(desk):
    """Return the ascending list of all harmless lots."""
    return [lot for lot in droppable_lots(desk) if is_harmless(desk, lot)]


def greatest_harmless(desk):
    """Return the ascending list of the harmless lots that lie in no other one."""
    return greatest_of(harmless_lots(desk))


def least_harmful(desk):
    """Return the ascending list of the droppable lots that are not harmless, while all others within them are."""
    return least_of([lot for lot in droppable_lots(desk) if not is_harmless(desk, lot)])


def harmed_partner(desk, lot):
    """Return a partner of the desk that is none of the desk without a lot, None if the lot is harmless."""
    found = spoiler(desk, dropped(desk, lot))
    return None if found is None else found[0]


def is_harmed_partner(desk, lot, value):
    """Return whether any object is a partner of the desk that is none of the desk without a lot."""
    without = dropped(desk, lot)
    return is_partner(desk, value) and not is_partner(without, value)


def must_say(desk):
    """Return the ascending list of the said words that are in no harmless lot."""
    lots = harmless_lots(desk)
    return [word for word in said_words(desk) if not any([word in lot for lot in lots])]


def free_words(desk):
    """Return the ascending list of the said words that are a harmless lot alone."""
    return [word for word in said_words(desk) if is_harmless(desk, [word])]


def said_again(desk, lot):
    """Return the ascending list of the least lots within a lot without which that is harmless."""
    dropped(desk, lot)
    return least_parts(list(lot), is_enough_again, (desk, lot))


def is_enough_again(told, again):
    """Return whether a lot of a desk is harmless without what is said again."""
    desk, lot = told
    return is_harmless(desk, [word for word in lot if word not in again])


def live_states(desk):
    """Return the ascending list of the live states."""
    need_desk(desk)
    return sorted(nodes_from(sayable_graph(desk), desk.start()))


def needed_heard(desk):
    """Return the ascending list of the heard words that are sayable at live states."""
    live = live_states(desk)
    graph = sayable_graph(desk)
    return [(state, word) for state, word in heard_words(desk) if state in live and word in graph[state]]


def least_hearing(desk):
    """Return the desk without all heard words of live states that are not sayable; itself if it is not viable."""
    if not has_partner(desk):
        return desk
    book = desk.book()
    ranks = viable_ranks(book)
    needed = {state: sayable_row(book[state], ranks) for state in live_states(desk)}
    return Desk({**book, **needed}, desk.start())


def is_spare(desk, value):
    """Return whether any object is an ascending list of heard words that is spare."""
    need_desk(desk)
    without = desk_without(desk, "hears", value)
    return without is not None and stands(desk, without)


def is_lot_of(changes, value):
    """Return whether any object is an ascending list of positions in a list of changes."""
    if not isinstance(value, list) or not all([is_count(place) and place < len(changes) for place in value]):
        return False
    return is_ascending(value)


def lot_desk(desk, changes, lot):
    """Return the desk behind a lot of changes, None if one of them does not fit what is there then."""
    need_desk(desk)
    need_changes(changes)
    if not is_lot_of(changes, lot):
        raise InvalidLot(lot)
    return desk_behind(desk, [changes[place] for place in lot])


def desk_behind(desk, changes):
    """Return the desk behind changes, None if one of them does not fit what is there then."""
    book, start = desk.book(), desk.start()
    for change in changes:
        if not change_fits(book, start, change):
            return None
        book, start = after_change(book, start, change)
    return Desk(book, start)


def told_lots(desk, changes, standing):
    """Return the ascending list of the lots of changes that have a desk that stands, or does not, for the first one."""
    need_desk(desk)
    need_changes(changes)
    lots = []
    for lot in all_parts(list(range(len(changes)))):
        behind = lot_desk(desk, changes, lot)
        if behind is not None and stands(desk, behind) == standing:
            lots.append(lot)
    return lots


def spoiling_lots(desk, changes):
    """Return the ascending list of the least lots of changes whose desk does not stand for the first one."""
    return least_of(told_lots(desk, changes, False))


def standing_lots(desk, changes):
    """Return the ascending list of the greatest lots of changes whose desk stands for the first one."""
    return greatest_of(told_lots(desk, changes, True))
