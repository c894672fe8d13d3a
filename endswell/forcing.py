"""Who can end it: pairs from which one of two desks brings the end about, whatever the other one says."""

from endswell.desks import Desk, need_desk, trimmed
from endswell.facing import books_of, end_well, first_pair
from endswell.forms import is_ascending, is_name
from endswell.graphs import grown, word_nearer
from endswell.leading import led_words
from endswell.pairs import ended_in, is_pair_of, is_stuck, links_from, next_of
from endswell.partners import most_willing, shy_row
from endswell.stands import held_against
from endswell.viable import has_partner, is_partner, spoken_desk

NAMES = {(True, True): "either", (True, False): "one", (False, True): "other"}


def speaks(books, pair):
    """Return whether the one desk says at a pair."""
    return books[0][pair[0]][0] == "says"


def coming(one, other):
    """Return a tuple of the books of two desks, the graph of the pairs that can come, and the words of forced ones."""
    books = books_of(one, other)
    links = links_from(books, first_pair(one, other))
    own = {pair: True for pair in links if speaks(books, pair)}
    return books, links, led_words(links, own, ended_in(books, links))


def forced_pairs(one, other):
    """Return the dictionary from the pairs that the one desk forces, ascending, to the least number of words."""
    _, _, forced = coming(one, other)
    return {pair: forced[pair] for pair in sorted(forced)}


def forces(one, other):
    """Return whether the one desk forces the first pair."""
    _, _, forced = coming(one, other)
    return first_pair(one, other) in forced


def forcing_plan(one, other):
    """Return a plan that forces within as few words as can be, with just its own pairs, None if there is none."""
    books, links, forced = coming(one, other)
    first = first_pair(one, other)
    if first not in forced:
        return None
    own = [pair for pair in forced if speaks(books, pair)]
    plan = {pair: word_nearer(links[pair], forced, forced[pair] - 1) for pair in own}
    graph = grown(planned_turns, (books, plan), [first])
    return {pair: plan[pair] for pair in sorted(graph) if pair in plan}


def planned_turns(told, pair):
    """Return the next pairs of a pair, by the word of a plan alone where the one desk says, none if that is no word."""
    books, plan = told
    turns = next_of(books, pair)
    if not speaks(books, pair):
        return turns
    return {word: turns[word] for word in turns if word == plan.get(pair)}


def is_forcing_plan(one, other, value):
    """Return whether any object is a plan that forces."""
    books = books_of(one, other)
    if not isinstance(value, dict):
        return False
    if not all([is_pair_of(books, pair) and is_name(value[pair]) for pair in value]):
        return False
    graph = grown(planned_turns, (books, value), [first_pair(one, other)])
    # what goes round, is stuck or is not told by the plan is never led, even if all words are
    return len(led_words(graph, {}, ended_in(books, graph))) == len(graph)


def holding_off(one, other):
    """Return the ascending list of the pairs that can come and are not forced, None if the one desk forces."""
    _, links, forced = coming(one, other)
    if first_pair(one, other) in forced:
        return None
    return [pair for pair in sorted(links) if pair not in forced]


def is_holding_off(one, other, value):
    """Return whether any object is an ascending list of pairs that can come and that holds the end off."""
    books, links, _ = coming(one, other)
    if not isinstance(value, list) or not all([is_pair_of(books, pair) and pair in links for pair in value]):
        return False
    listed = {pair: True for pair in value}
    if not is_ascending(value) or first_pair(one, other) not in listed:
        return False
    return all([is_held_off(books, links, listed, pair) for pair in value])


def is_held_off(books, links, listed, pair):
    """Return whether the one desk cannot leave what is listed at a pair, and the other one need not."""
    if is_stuck(books, pair):
        return True
    staying = [later in listed for later in links[pair].values()]
    # nobody speaks at an ended pair, and it has no next one that could be listed
    return all(staying) if speaks(books, pair) else any(staying)


def who_ends(one, other):
    """Return "either", "one", "other", "together", "perhaps" or "never"."""
    books, links, _ = coming(one, other)
    who = (forces(one, other), forces(other, one))
    if who in NAMES:
        return NAMES[who]
    if end_well(one, other):
        return "together"
    return "perhaps" if ended_in(books, links) else "never"


def ends_by(desk, kind):
    """Return the dictionary from live states to the words within which the end is brought about by choosing.

    The kind tells at which states it is chosen; the desk has a partner.
    """
    book = spoken_desk(desk).book()
    graph = {state: book[state][1] for state in book}
    choosing = {state: True for state in book if book[state][0] == kind}
    return led_words(graph, choosing, [state for state in book if book[state][0] == "done"])


def ends_with_all(desk):
    """Return the least number of words within which a desk brings the end about with all partners, or None."""
    return ends_by(desk, "says").get(desk.start()) if has_partner(desk) else None


def ends_with_some(desk):
    """Return the least number of words within which some partner brings the end about, None if none does."""
    return ends_by(desk, "hears").get(desk.start()) if has_partner(desk) else None


def ending_partner(desk):
    """Return a partner that brings the end about within as few words as can be, None if none does."""
    if ends_with_some(desk) is None:
        return None
    book = desk.book()
    least = ends_by(desk, "hears")
    return trimmed(Desk({state: shy_row(book[state], least, least[state]) for state in least}, desk.start()))


def is_ending_partner(desk, value):
    """Return whether any object is a partner that brings the end about."""
    return is_partner_of(desk, value) and forces(value, desk)


def is_partner_of(desk, value):
    """Return whether any object is a partner of a desk; raise InvalidDesk unless that is one."""
    need_desk(desk)
    return is_partner(desk, value)


def delaying_partner(desk):
    """Return a partner with which the desk does not force, None if there is none."""
    if not has_partner(desk) or ends_with_all(desk) is not None:
        return None
    return most_willing(desk)


def is_delaying_partner(desk, value):
    """Return whether any object is a partner with which the desk does not force."""
    return is_partner_of(desk, value) and not forces(desk, value)


def led_pairs(elder, newer):
    """Return the dictionary from the pairs of both desks that are led, ascending, to the least number of words."""
    least = led_in(held_against(elder, newer))
    return {pair: least[pair] for pair in sorted(least)}


def led_in(held):
    """Return the least number of words of the led pairs of two desks held against one another."""
    if not held.viable:
        return {}
    saying = {pair: True for pair in held.links if speaks(held.books, pair)}
    return led_words(held.links, saying, ended_in(held.books, held.links))


def leads_all(elder, newer):
    """Return whether all pairs of both desks are led; they are not if the elder one is not viable."""
    held = held_against(elder, newer)
    return len(led_in(held)) == len(held.links)


def ends_everywhere(desk):
    """Return whether a desk, begun at each of its live states, brings the end about with all its partners."""
    return has_partner(desk) and len(ends_by(desk, "says")) == len(spoken_desk(desk).book())
