"""Two desks that sit at a place, each in its state, and other desks that might take the seat of one of them."""

from endswell.desks import begun
from endswell.facing import books_of, end_well
from endswell.graphs import grown, words_to
from endswell.orders import standing_from
from endswell.pairs import ended_in, next_of
from endswell.stands import spoiler, stands


def ends_from(one, other, pair):
    """Return whether two desks end well from a pair of their states on."""
    return end_well(begun(one, pair[0]), begun(other, pair[1]))


def stands_from(elder, newer, pair):
    """Return whether a newer desk stands for an elder one from a pair of their states on."""
    return stands(begun(elder, pair[0]), begun(newer, pair[1]))


def spoiler_from(elder, newer, pair):
    """Return a spoiler of an elder and a newer desk from a pair of their states on, None if the newer one stands."""
    return spoiler(begun(elder, pair[0]), begun(newer, pair[1]))


def standing_states(elder, state, newer):
    """Return the ascending list of the states from which a newer desk stands for an elder one in its state."""
    return [own for _, own in standing_from(elder, newer, [state])]


def ending_states(newer, guest, state):
    """Return the ascending list of the states from which a desk ends well with a guest in its state."""
    books = books_of(newer, guest)
    pairs = [(own, state) for own in books[0]]
    # all of them are looked at together, as there may be many
    links = grown(next_of, books, pairs)
    least = words_to(links, ended_in(books, links))
    spoilt = words_to(links, [pair for pair in links if pair not in least])
    return [own for own, guest_state in pairs if (own, guest_state) not in spoilt]
