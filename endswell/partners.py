"""Partners of a desk: the most willing ones, the shyest ones, those within some words, joined and fitted ones."""

from endswell.desks import TURNED, Desk, need_desk, trimmed, turned
from endswell.drops import least_parts
from endswell.errors import InvalidPartner, InvalidWords
from endswell.facing import books_of, pairs_come
from endswell.forms import is_ascending_names
from endswell.graphs import grown, word_nearer
from endswell.making import named_desk
from endswell.spoken import hearing_within, hearing_without, sayable_rows, spoken_of, viable_ranks
from endswell.talks import state_behind
from endswell.together import moved
from endswell.viable import is_partner, need_hopeful, spoken_desk


def need_words(words):
    """Raise InvalidWords unless any object is an ascending list of words."""
    if not is_ascending_names(words):
        raise InvalidWords(words)


def need_partner(desk, partner):
    """Raise InvalidPartner unless any object is a partner of a desk."""
    if not is_partner(desk, partner):
        raise InvalidPartner(partner)


def most_willing(desk):
    """Return a partner that says all sayable words."""
    return turned(spoken_desk(desk))


def is_most_willing(desk, value):
    """Return whether any object is a partner that says all sayable words at each pair that can come."""
    need_hopeful(desk)
    if not is_partner(desk, value):
        return False
    book, face = books_of(desk, value)
    rows = sayable_rows(book, viable_ranks(book))
    hearing = [pair for pair in pairs_come(desk, value) if book[pair[0]][0] == "hears"]
    return all([list(face[own][1]) == list(rows[state][1]) for state, own in hearing])


def shy_partner(desk):
    """Return a partner each of whose states that says has just one word."""
    need_hopeful(desk)
    book = desk.book()
    ranks = viable_ranks(book)
    return trimmed(Desk({state: shy_row(book[state], ranks, ranks[state]) for state in ranks}, desk.start()))


def shy_row(row, ranks, own):
    """Return the row with which a shy partner faces one whose rank is its own."""
    kind, turns = row
    if kind != "hears":
        return TURNED[kind], turns
    word = word_nearer(turns, ranks, own - 1)
    return "says", {word: turns[word]}


def is_shy_partner(desk, value):
    """Return whether any object is a partner each of whose states that says has just one word."""
    need_hopeful(desk)
    if not is_partner(desk, value):
        return False
    rows = list(value.book().values())
    return all([kind != "says" or len(turns) == 1 for kind, turns in rows])


def partner_within(desk, words):
    """Return a partner that says none but some words, None if there is none."""
    need_desk(desk)
    need_words(words)
    rows = hearing_within(desk.book(), words)
    ranks = viable_ranks(rows)
    if desk.start() not in ranks:
        return None
    return turned(spoken_of(rows, ranks, desk.start()))


def is_partner_within(desk, words, value):
    """Return whether any object is a partner that says none but some words."""
    need_desk(desk)
    need_words(words)
    return is_partner(desk, value) and all([word in words for word in words_in(value, "says")])


def words_in(desk, kind):
    """Return the ascending list of the words that are said, or that are heard, at any state of a desk."""
    rows = list(desk.book().values())
    return sorted({word for own, turns in rows if own == kind for word in turns})


def least_words(desk):
    """Return the ascending list of the least lists of words within which there is a partner."""
    words = words_in(spoken_desk(desk), "hears")
    return least_parts(words, has_partner_within, (desk.book(), desk.start()))


def has_partner_within(told, words):
    """Return whether a desk, told by its book and its start, has a partner within some words."""
    book, start = told
    return start in viable_ranks(hearing_within(book, words))


def needed_words(desk):
    """Return the ascending list of the words without which there is no partner."""
    words = words_in(spoken_desk(desk), "hears")
    # within more words there is a partner, too, so a word is in all least lists exactly if all others do not do
    return [word for word in words if desk.start() not in viable_ranks(hearing_without(desk.book(), [word]))]


def may_say(desk, talk):
    """Return the ascending list of the words that some partner says behind a talk, None if none can have it."""
    spoken = spoken_desk(desk)
    state = state_behind(spoken, talk)
    if state is None:
        return None
    kind, turns = spoken.book()[state]
    return list(turns) if kind == "hears" else []


def need_partners(desk, one, other):
    """Raise Hopeless if a desk has no partner, InvalidPartner unless two objects are partners, one by one."""
    need_hopeful(desk)
    need_partner(desk, one)
    need_partner(desk, other)


def said_at(books, position):
    """Return the ascending list of the words that partners who are not out say at a position."""
    speaking = [book[state] for book, state in zip(books, position) if state is not None]
    return sorted({word for kind, turns in speaking if kind == "says" for word in turns})


def joined_turns(books, position):
    """Return the turns of a position of a desk and two partners: by what the desk says, or one of the partners."""
    kind, turns = books[0][position[0]]
    words = said_at(books[1:], position[1:]) if kind == "hears" else list(turns)
    return {word: moved(books, position, word) for word in words}


def joined_partner(desk, one, other):
    """Return a partner that says, behind each talk, what the one or the other partner says behind it."""
    need_partners(desk, one, other)
    books = [desk.book(), one.book(), other.book()]
    first = (desk.start(), one.start(), other.start())
    graph = grown(joined_turns, books, [first])
    return named_desk({node: TURNED[books[0][node[0]][0]] for node in graph}, graph, first)


def judged_turns(books, position):
    """Return the turns of a position of a desk, a partner that is judged, and two others, by what the first two say."""
    words = said_at(books[:2], position[:2])
    return {word: moved(books, position, word) for word in words}


def is_joined_partner(desk, one, other, value):
    """Return whether any object is a partner that says, behind each talk, what the one or the other says behind it."""
    need_partners(desk, one, other)
    if not is_partner(desk, value):
        return False
    books = [desk.book(), value.book(), one.book(), other.book()]
    graph = grown(judged_turns, books, [(desk.start(), value.start(), one.start(), other.start())])
    return all([said_at(books[1:2], node[1:2]) == said_at(books[2:], node[2:]) for node in graph])


def fitted(desk, partner):
    """Return a partner without its states that cannot come, and without words that it never hears."""
    need_hopeful(desk)
    need_partner(desk, partner)
    book, face = books_of(desk, partner)
    said = {}
    for state, own in pairs_come(desk, partner):
        said.setdefault(own, []).extend(list(book[state][1]))
    return Desk({own: fitted_row(face[own], said[own]) for own in said}, partner.start())


def fitted_row(row, words):
    """Return a row without the words that it hears and that are not among others."""
    kind, turns = row
    if kind != "hears":
        return row
    return kind, {word: turns[word] for word in turns if word in words}
