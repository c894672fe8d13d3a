"""Two desks facing: which pairs of states can come, and whether they end well."""

from endswell.desks import need_desk
from endswell.errors import InvalidCount, InvalidPair
from endswell.forms import is_count
from endswell.graphs import many_by_size, nodes_from, place_of, shortest_way, way_at, words_to
from endswell.pairs import ended_in, is_closed_list, is_ended, is_pair_of, links_from, next_of, pair_after, stuck_in
from endswell.talks import is_talk, need_size, need_talk


def books_of(one, other):
    """Return a tuple of the books of two desks; raise InvalidDesk unless both are desks, one by one."""
    need_desk(one)
    need_desk(other)
    return one.book(), other.book()


def books_with(one, other, pair):
    """Return a tuple of the books of two desks; raise InvalidPair unless the pair is one of theirs."""
    books = books_of(one, other)
    if not is_pair_of(books, pair):
        raise InvalidPair(pair)
    return books


def first_pair(one, other):
    """Return the pair of the starts."""
    return one.start(), other.start()


def words_out(books, links):
    """Return the dictionary from the pairs of a graph to the least number of words to an ended one."""
    return words_to(links, ended_in(books, links))


def pair_kind(one, other, pair):
    """Return "ended", "goes on" or "stuck"."""
    books = books_with(one, other, pair)
    if is_ended(books, pair):
        return "ended"
    return "goes on" if next_of(books, pair) else "stuck"


def next_pairs(one, other, pair):
    """Return the dictionary from the words, ascending, to the next pairs."""
    return next_of(books_with(one, other, pair), pair)


def pairs_come(one, other):
    """Return the ascending list of the pairs that can come."""
    return sorted(links_from(books_of(one, other), first_pair(one, other)))


def talk_to(one, other, pair):
    """Return a talk with as few words as can be to a pair, None if it cannot come."""
    links = links_from(books_with(one, other, pair), first_pair(one, other))
    return shortest_way(links, first_pair(one, other), [pair] if pair in links else [])


def is_talk_to(one, other, pair, value):
    """Return whether any object is a talk with as few words as can be to a pair."""
    shortest = talk_to(one, other, pair)
    if shortest is None or not is_talk(value) or len(value) != len(shortest):
        return False
    return pair_behind(one, other, value) == pair


def pair_behind(one, other, talk):
    """Return the pair behind a talk, None if no row of next pairs leads along it."""
    books = books_of(one, other)
    need_talk(talk)
    return pair_after(books, first_pair(one, other), talk)


def end_well(one, other):
    """Return whether an ended pair can be come to from every pair that can come."""
    return ways_out(one, other) is not None


def ways_out(one, other):
    """Return the dictionary from the pairs that can come to the least numbers of words, None if some has none."""
    books = books_of(one, other)
    links = links_from(books, first_pair(one, other))
    least = words_out(books, links)
    if len(least) < len(links):
        return None
    return {pair: least[pair] for pair in sorted(links)}


def are_ways_out(one, other, value):
    """Return whether any object is ways out; they are looked at pair by pair."""
    books = books_of(one, other)
    links = links_from(books, first_pair(one, other))
    if not isinstance(value, dict) or len(value) != len(links):
        return False
    if not all([pair in value and is_count(value[pair]) for pair in links]):
        return False
    return all([leads_out(books, links, value, pair) for pair in links])


def leads_out(books, links, counts, pair):
    """Return whether the count of a pair is 0 and it is ended, or some next pair has a lower one."""
    if is_ended(books, pair):
        return counts[pair] == 0
    # a lower count of a next pair is at least 0, so the own one is not 0
    return any([counts[later] < counts[pair] for later in links[pair].values()])


def way_out(one, other, pair):
    """Return a talk with as few words as can be from a pair to an ended one, None if there is none."""
    books = books_with(one, other, pair)
    links = links_from(books, pair)
    return shortest_way(links, pair, ended_in(books, links))


def is_way_out(one, other, pair, value):
    """Return whether any object is a talk with as few words as can be from a pair to an ended one."""
    shortest = way_out(one, other, pair)
    if shortest is None or not is_talk(value) or len(value) != len(shortest):
        return False
    books = books_of(one, other)
    behind = pair_after(books, pair, value)
    return behind is not None and is_ended(books, behind)


def farthest(one, other):
    """Return the greatest number of words of a shortest way out, None if the two do not end well."""
    ways = ways_out(one, other)
    return None if ways is None else max(ways.values())


def farthest_pairs(one, other):
    """Return the ascending list of the pairs whose shortest way out is the longest."""
    ways = ways_out(one, other)
    if ways is None:
        return []
    greatest = max(ways.values())
    return [pair for pair in ways if ways[pair] == greatest]


def bad_talk(one, other):
    """Return a shortest talk behind which no ended pair can come, with the pairs that can; None if they end well."""
    books = books_of(one, other)
    links = links_from(books, first_pair(one, other))
    least = words_out(books, links)
    talk = shortest_way(links, first_pair(one, other), [pair for pair in links if pair not in least])
    if talk is None:
        return None
    return talk, sorted(nodes_from(links, pair_after(books, first_pair(one, other), talk)))


def is_bad_talk(one, other, value):
    """Return whether any object is a bad talk, however long."""
    books = books_of(one, other)
    if not isinstance(value, tuple) or len(value) != 2:
        return False
    talk, pairs = value
    if not is_talk(talk) or not is_closed_list(books, pairs):
        return False
    return pair_after(books, first_pair(one, other), talk) in pairs


def first_stuck(one, other):
    """Return a talk with as few words as can be behind which a stuck pair stands, None if there is none."""
    books = books_of(one, other)
    links = links_from(books, first_pair(one, other))
    return shortest_way(links, first_pair(one, other), stuck_in(books, links))


def is_first_stuck(one, other, value):
    """Return whether any object is a talk with as few words as can be behind which a stuck pair stands."""
    shortest = first_stuck(one, other)
    if shortest is None or not is_talk(value) or len(value) != len(shortest):
        return False
    behind = pair_behind(one, other, value)
    return behind is not None and pair_kind(one, other, behind) == "stuck"


def never_stuck(one, other):
    """Return whether no stuck pair can come."""
    return first_stuck(one, other) is None


def ended_tables(one, other, size):
    """Return the graph of the pairs that can come and the tables of the ways to ended pairs."""
    books = books_of(one, other)
    need_size(size)
    links = links_from(books, first_pair(one, other))
    return links, many_by_size(links, ended_in(books, links), size)


def ended_talks(one, other, size):
    """Return how many talks of so many words lead from the first pair to an ended one."""
    _, tables = ended_tables(one, other, size)
    return tables[size].get(first_pair(one, other), 0)


def ended_talk(one, other, size, number):
    """Return the talk at a position in the ascending list of those that lead to an ended pair."""
    links, tables = ended_tables(one, other, size)
    first = first_pair(one, other)
    if not is_count(number) or number >= tables[size].get(first, 0):
        raise InvalidCount(number)
    return way_at(links, first, tables, number)


def ended_place(one, other, talk):
    """Return the position of a talk among those of its size that lead to an ended pair, None if it is none."""
    behind = pair_behind(one, other, talk)
    if behind is None or pair_kind(one, other, behind) != "ended":
        return None
    links, tables = ended_tables(one, other, len(talk))
    return place_of(links, first_pair(one, other), tables, talk)
