"""A hall of places, at each of which two desks talk that may be exchanged if nobody can be spoiled."""

from endswell.desks import book_with, is_word, need_desk
from endswell.errors import InvalidHall, InvalidLog, InvalidSpot, InvalidWord, NothingToRedo, NothingToUndo, Refused
from endswell.facing import end_well, first_pair, is_way_out, next_pairs, pair_kind, way_out
from endswell.forms import is_count
from endswell.seats import ending_states, ends_from, spoiler_from, standing_states, stands_from
from endswell.talks import state_behind

THINGS = {
    "seat": 2,
    "go_on": 2,
    "leave": 1,
    "exchange": 3,
    "renew": 2,
    "risk": 3,
    "swap": 2,
    "turn": 1,
}


class Trial:
    """A block behind which a hall is as it was when the block was entered."""

    def __init__(self, hall):
        self.hall = hall

    def __enter__(self):
        self.now = self.hall.now
        self.past = self.hall.past
        self.undone = self.hall.undone
        return self.hall

    def __exit__(self, kind, value, trace):
        hall = self.hall
        hall.now = self.now
        hall.past = self.past
        hall.undone = self.undone


class Hall:
    """Places with two desks each, and what was commanded.

    What there is now is a tuple of the dictionary from the places to tuples (own, guest, pair, talk), the count
    that the next place gets, and the commands. None of this is ever changed but for something else in its place,
    so what is kept of it, in the past, among what was undone, in a block or in a copy, stays as it is.
    """

    def __init__(self):
        self.now = ({}, 0, ())
        self.past = ()
        self.undone = ()

    def seated(self, place):
        """Return what is at a place; raise InvalidSpot unless any object is one."""
        rooms = self.now[0]
        if not is_count(place) or place not in rooms:
            raise InvalidSpot(place)
        return rooms[place]

    def take(self, command, rooms, many):
        """Make a command the last one, with what there is behind it."""
        self.past = self.past + (self.now,)
        self.undone = ()
        self.now = (rooms, many, self.now[2] + (command,))

    def change(self, command, changed_rooms):
        """Make a command the last one that changes some places."""
        rooms, many, _ = self.now
        self.take(command, {**rooms, **changed_rooms}, many)

    def seat(self, own, guest):
        """Put two desks that end well at a new place, and return it."""
        # errors of both desks are raised there
        if not end_well(own, guest):
            raise Refused(guest)
        rooms, many, _ = self.now
        self.take(("seat", own, guest), {**rooms, many: (own, guest, first_pair(own, guest), ())}, many + 1)
        return many

    def places(self):
        """Return the ascending list of the places."""
        return sorted(self.now[0])

    def own(self, place):
        """Return the own desk of a place."""
        return self.seated(place)[0]

    def guest(self, place):
        """Return the guest of a place."""
        return self.seated(place)[1]

    def talk(self, place):
        """Return the talk of what has been said at a place since its desks were seated."""
        return list(self.seated(place)[3])

    def pair(self, place):
        """Return the pair of the states in which both desks of a place are."""
        return self.seated(place)[2]

    def nexts(self, place):
        """Return the dictionary from the words by which the pair of a place goes on, ascending, to the next pairs."""
        own, guest, pair, _ = self.seated(place)
        return next_pairs(own, guest, pair)

    def go_on(self, place, word):
        """Let the one desk of a place that says say a word, and return the pair then."""
        own, guest, _, talk = self.seated(place)
        if not is_word(word):
            raise InvalidWord(word)
        nexts = self.nexts(place)
        if word not in nexts:
            raise Refused(word)
        self.change(("go_on", place, word), {place: (own, guest, nexts[word], talk + (word,))})
        return nexts[word]

    def words(self, place):
        """Return the ascending list of the words by which the pair of a place goes on."""
        return list(self.nexts(place))

    def is_ended(self, place):
        """Return whether the pair of a place is ended."""
        own, guest, pair, _ = self.seated(place)
        return pair_kind(own, guest, pair) == "ended"

    def leave(self, place):
        """Take both desks away from a place where they are done."""
        if not self.is_ended(place):
            raise Refused(place)
        rooms, many, _ = self.now
        self.take(("leave", place), {other: rooms[other] for other in rooms if other != place}, many)

    def exchange(self, place, newer, state):
        """Put another desk, in a state, in the place of the own one, if it stands for this."""
        own, guest, pair, talk = self.seated(place)
        book_with(newer, state)
        if not stands_from(own, newer, (pair[0], state)):
            raise Refused(newer)
        self.change(("exchange", place, newer, state), {place: (newer, guest, (state, pair[1]), talk)})

    def renew(self, place, newer):
        """Exchange the own desk for another one, in the state behind the talk, if it stands there."""
        if not self.renewable(place, newer):
            raise Refused(newer)
        _, guest, pair, talk = self.seated(place)
        state = state_behind(newer, list(talk))
        self.change(("renew", place, newer), {place: (newer, guest, (state, pair[1]), talk)})

    def renewable(self, place, newer):
        """Return whether a desk has the talk of a place, and stands behind it for the own desk."""
        own, _, pair, talk = self.seated(place)
        state = state_behind(newer, list(talk))
        return state is not None and stands_from(own, newer, (pair[0], state))

    def risk(self, place, newer, state):
        """Put another desk, in a state, in the place of the own one, if it ends well with the guest."""
        _, guest, pair, talk = self.seated(place)
        book_with(newer, state)
        if not ends_from(newer, guest, (state, pair[1])):
            raise Refused(newer)
        self.change(("risk", place, newer, state), {place: (newer, guest, (state, pair[1]), talk)})

    def states_for(self, place, newer):
        """Return the ascending list of the states of a desk in which it could be exchanged."""
        own, _, pair, _ = self.seated(place)
        need_desk(newer)
        return standing_states(own, pair[0], newer)

    def safe_with(self, place, newer):
        """Return the ascending list of the states of a desk in which it ends well with the guest."""
        _, guest, pair, _ = self.seated(place)
        need_desk(newer)
        return ending_states(newer, guest, pair[1])

    def still_ends(self, place):
        """Return a talk with as few words as can be from the pair of a place to an ended one."""
        own, guest, pair, _ = self.seated(place)
        return way_out(own, guest, pair)

    def still_ends_by(self, place, value):
        """Return whether any object is a talk with as few words as can be from the pair of a place to an ended one."""
        own, guest, pair, _ = self.seated(place)
        return is_way_out(own, guest, pair, value)

    def spoiler(self, place, newer, state):
        """Return a spoiler of the own desk, in its state, and another desk in a state, None if that stands."""
        own, _, pair, _ = self.seated(place)
        book_with(newer, state)
        return spoiler_from(own, newer, (pair[0], state))

    def is_swap(self, place, other):
        """Return whether two places end well with the guest of one another."""
        own, guest, pair, _ = self.seated(place)
        other_own, other_guest, other_pair, _ = self.seated(other)
        if not ends_from(own, other_guest, (pair[0], other_pair[1])):
            return False
        return ends_from(other_own, guest, (other_pair[0], pair[1]))

    def swap(self, place, other):
        """Let the guests of two places change, if both still end well."""
        own, guest, pair, talk = self.seated(place)
        other_own, other_guest, other_pair, other_talk = self.seated(other)
        if other == place:
            raise InvalidSpot(other)
        if not self.is_swap(place, other):
            raise Refused(other)
        swapped = {
            place: (own, other_guest, (pair[0], other_pair[1]), talk),
            other: (other_own, guest, (other_pair[0], pair[1]), other_talk),
        }
        self.change(("swap", place, other), swapped)

    def fits_with(self, place):
        """Return the ascending list of the other places whose guest could change with that of a place."""
        self.seated(place)
        return [other for other in self.places() if other != place and self.is_swap(place, other)]

    def turn(self, place):
        """Make the guest of a place its own desk, and the own one its guest."""
        own, guest, pair, talk = self.seated(place)
        self.change(("turn", place), {place: (guest, own, (pair[1], pair[0]), talk)})

    def undo(self):
        """Take back the last command."""
        if len(self.past) == 0:
            raise NothingToUndo()
        self.undone = self.undone + (self.now,)
        self.now = self.past[-1]
        self.past = self.past[:-1]

    def redo(self):
        """Make the command again that was taken back last."""
        if len(self.undone) == 0:
            raise NothingToRedo()
        self.past = self.past + (self.now,)
        self.now = self.undone[-1]
        self.undone = self.undone[:-1]

    def trial(self):
        """Return a block behind which the hall is as it was."""
        return Trial(self)

    def attempt(self, action):
        """Call a function with the hall in a block, and return the very object that it returns."""
        with self.trial():
            return action(self)

    def copy(self):
        """Return an independent hall that is the same."""
        other = Hall()
        other.now = self.now
        other.past = self.past
        other.undone = self.undone
        return other

    def log(self):
        """Return the list of the commands that are not taken back, the eldest first."""
        return list(self.now[2])


def need_hall(hall):
    """Raise InvalidHall unless any object is a hall."""
    if not isinstance(hall, Hall):
        raise InvalidHall(hall)


def is_log(value):
    """Return whether any object is a list of tuples of the word of a command and as many things as it takes."""
    if not isinstance(value, list):
        return False
    for command in value:
        if not isinstance(command, tuple) or len(command) == 0 or not isinstance(command[0], str):
            return False
        if THINGS.get(command[0]) != len(command) - 1:
            return False
    return True


def carried_out(hall, command):
    """Carry out a command of a log on a hall, and return what its method returns."""
    word = command[0]
    place = command[1]
    if word == "seat":
        return hall.seat(command[1], command[2])
    if word == "go_on":
        return hall.go_on(place, command[2])
    if word == "leave":
        return hall.leave(place)
    if word == "exchange":
        return hall.exchange(place, command[2], command[3])
    if word == "renew":
        return hall.renew(place, command[2])
    if word == "risk":
        return hall.risk(place, command[2], command[3])
    if word == "swap":
        return hall.swap(place, command[2])
    return hall.turn(place)


def replayed(hall, log):
    """Return a copy of a hall in which the commands of a log are made behind."""
    need_hall(hall)
    if not is_log(log):
        raise InvalidLog(log)
    other = hall.copy()
    for command in log:
        carried_out(other, command)
    return other
