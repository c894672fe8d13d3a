"""Whether a newer desk stands for an elder one: whether every partner of the elder one is one of the newer one."""

from endswell.desks import TURNED
from endswell.facing import books_of, first_pair, pair_behind, way_out
from endswell.forms import is_count
from endswell.graphs import grown, shortest_way, word_nearer
from endswell.making import named_desk
from endswell.pairs import is_pair_of
from endswell.partners import need_words
from endswell.spoken import hearing_without
from endswell.steps import Held, is_matched, lost_ask, step_pairs
from endswell.talks import is_talk, is_talk_as_short
from endswell.viable import is_partner


def held_against(elder, newer):
    """Return an elder and a newer desk held against one another; raise InvalidDesk unless both are desks."""
    book, newer_book = books_of(elder, newer)
    return Held(book, newer_book, first_pair(elder, newer))


def is_standing(held):
    """Return whether the newer one of two desks held against one another stands for the elder one."""
    return not held.viable or len(held.lost) == 0


def stands(elder, newer):
    """Return whether every partner of the elder desk is a partner of the newer one."""
    return is_standing(held_against(elder, newer))


def stands_within(elder, newer, words):
    """Return whether every partner of the elder desk that says none of some words is a partner of the newer one."""
    book, newer_book = books_of(elder, newer)
    need_words(words)
    return is_standing(Held(hearing_without(book, words), newer_book, first_pair(elder, newer)))


def common_pairs(elder, newer):
    """Return the ascending list of the pairs to which steps through matched pairs lead."""
    return sorted(held_against(elder, newer).links)


def unmatched_pairs(held):
    """Return the list of the pairs that are not matched to which steps lead, none if the elder desk is not viable."""
    return [pair for pair in held.links if held.viable and not is_matched(held.books, pair)]


def missing_talk(elder, newer):
    """Return a shortest talk whose steps lead to a pair that is not matched, None if there is none."""
    held = held_against(elder, newer)
    return shortest_way(held.links, held.first, unmatched_pairs(held))


def is_missing_talk(elder, newer, value):
    """Return whether any object is a shortest talk whose steps lead to a pair that is not matched."""
    held = held_against(elder, newer)
    shortest = missing_talk(elder, newer)
    return is_talk_as_short(held.links, held.first, unmatched_pairs(held), shortest, value)


def levels_table(elder, newer):
    """Return a table of levels, None if there is none."""
    return least_levels(elder, newer)


def least_levels(elder, newer):
    """Return the table of the least levels of the pairs to which steps lead, None if there is none."""
    held = held_against(elder, newer)
    if not held.viable:
        return {}
    if len(held.lost) > 0:
        return None
    return {pair: held.levels[pair] for pair in sorted(held.levels)}


def are_counts_of_pairs(books, value):
    """Return whether any object is a dictionary from pairs to counts."""
    if not isinstance(value, dict):
        return False
    return all([is_pair_of(books, pair) and is_count(value[pair]) for pair in value])


def is_levels_table(elder, newer, value):
    """Return whether any object is a table of levels; it is looked at pair by pair."""
    held = held_against(elder, newer)
    if not are_counts_of_pairs(held.books, value):
        return False
    if not held.viable:
        return len(value) == 0
    return held.first in value and all([is_level(held.books, value, pair) for pair in value])


def is_level(books, levels, pair):
    """Return whether the level of a pair rests or falls as it has to."""
    ask = lost_ask(books, pair)
    later = list(step_pairs(books, pair).values())
    if ask == "always" or not all([each in levels for each in later]):
        return False
    if ask != "some" and any([levels[each] < levels[pair] for each in later]):
        return True
    # a newer desk that says less than the elder one needs a level that falls
    return ask != "all" and all([levels[each] <= levels[pair] for each in later])


def lost_set(elder, newer):
    """Return a lost set, None if there is none."""
    held = held_against(elder, newer)
    if is_standing(held):
        return None
    return {pair: held.lost[pair] for pair in sorted(held.lost)}


def is_lost_set(elder, newer, value):
    """Return whether any object is a lost set; it is looked at pair by pair."""
    held = held_against(elder, newer)
    if not held.viable or not are_counts_of_pairs(held.books, value):
        return False
    if not any([pair in value for pair in held.links]):
        return False
    return all([is_lost(held.books, value, pair) for pair in value])


def is_lost(books, ranks, pair):
    """Return whether a pair may be in a lost set with its rank."""
    ask = lost_ask(books, pair)
    later = list(step_pairs(books, pair).values())
    if ask == "always":
        return True
    if ask != "some" and not all([each in ranks for each in later]):
        return False
    return ask == "all" or any([ranks[each] < ranks[pair] for each in later if each in ranks])


def spoiler(elder, newer):
    """Return a tuple of a partner of the elder desk and a talk that spoils the newer one, None if that stands."""
    held = held_against(elder, newer)
    if is_standing(held):
        return None
    return spoiling_partner(held), shortest_way(held.links, held.first, list(held.lost))


def spoiling_partner(held):
    """Return a partner of the elder desk that keeps the newer one in the lost pairs to which it comes."""
    graph = grown(spoiling_turns, held, [held.first])
    kinds = {node: TURNED[held.books[0][node[0]][0]] for node in graph}
    return named_desk(kinds, graph, held.first)


def spoiling_turns(held, node):
    """Return the turns of a spoiling partner at a pair, or at an elder state and None if it has left the newer desk."""
    state = node[0]
    onward = {} if node[1] is None else step_pairs(held.books, node)
    if held.books[0][state][0] == "hears" and node in held.lost and len(onward) > 0:
        word = word_nearer(onward, held.lost, held.lost[node] - 1)
        return {word: onward[word]}
    turns = held.books[0][state][1]
    return {word: onward.get(word, (turns[word], None)) for word in turns}


def is_spoiler(elder, newer, value):
    """Return whether any object is a tuple of a partner of the elder desk and a talk that spoils the newer one."""
    books_of(elder, newer)
    if not isinstance(value, tuple) or len(value) != 2:
        return False
    partner, talk = value
    if not is_partner(elder, partner) or not is_talk(talk):
        return False
    behind = pair_behind(newer, partner, talk)
    return behind is not None and way_out(newer, partner, behind) is None


def losing_talk(elder, newer):
    """Return a shortest talk whose steps lead to a pair of a lost set, None if there is none."""
    held = held_against(elder, newer)
    if is_standing(held):
        return None
    return shortest_way(held.links, held.first, list(held.lost))


def is_losing_talk(elder, newer, value):
    """Return whether any object is a shortest talk whose steps lead to a pair of a lost set."""
    held = held_against(elder, newer)
    return is_talk_as_short(held.links, held.first, held.lost, losing_talk(elder, newer), value)
