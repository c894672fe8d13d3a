"""A plain account of a hall: its commands are kept, and all else is told by going through them from the first on."""

import random

from endswell.desks import Desk, turned
from endswell.facing import end_well
from endswell.stands import stands
from tests.helpers import Plain, walked
from tests.plain import DONE, lively, near

LOOP = Desk({"s": ("says", {"more": "s", "stop": "t"}), "t": DONE}, "s")
EAR = Desk({"p": ("hears", {"more": "p", "stop": "q"}), "q": DONE}, "p")
QUICK = Desk({"s": ("says", {"stop": "t"}), "t": DONE}, "s")


def begin(desk, state):
    return Desk(desk.book(), state)


class PlainHall:
    """The commands that are made, and those that were taken back, the one that was taken back last being the last."""

    def __init__(self, made=(), undone=()):
        self.made, self.undone = list(made), list(undone)

    def rooms(self):
        """What is at each place: [own, guest, state, guest's state, talk]."""
        rooms, many = {}, 0
        for word, *things in self.made:
            if word == "seat":
                own, guest = things
                rooms[many] = [own, guest, own.start(), guest.start(), []]
                many += 1
                continue
            room = rooms[things[0]]
            if word == "go_on":
                room[2:4] = [walked(desk.book(), state, things[1:2]) for desk, state in zip(room[:2], room[2:4])]
                room[4].append(things[1])
            if word in ("exchange", "risk"):
                room[0], room[2] = things[1:]
            if word == "renew":
                room[0], room[2] = things[1], walked(things[1].book(), things[1].start(), room[4])
            if word == "swap":
                other = rooms[things[1]]
                room[1], room[3], other[1], other[3] = other[1], other[3], room[1], room[3]
            if word == "turn":
                room[:4] = [room[1], room[0], room[3], room[2]]
            if word == "leave":
                del rooms[things[0]]
        return rooms

    def refuses(self, command):
        """The name of the error that a command raises and its field, None if it is let; it changes nothing."""
        word, *things = command
        rooms = self.rooms()
        if word == "seat":
            return None if Plain(*things).well else ("Refused", things[1])
        if things[0] not in rooms:
            return "InvalidSpot", things[0]
        own, guest, state, guest_state, talk = rooms[things[0]]
        plain = Plain(begin(own, state), begin(guest, guest_state))
        if word == "go_on":
            return None if things[1] in plain.nexts[plain.first] else ("Refused", things[1])
        if word == "leave":
            return None if plain.kind[plain.first] == "ended" else ("Refused", things[0])
        if word in ("exchange", "risk") and things[2] not in things[1].book():
            return "InvalidState", things[2]
        if word == "exchange":
            return None if stands(begin(own, state), begin(*things[1:])) else ("Refused", things[1])
        if word == "renew":
            behind = walked(things[1].book(), things[1].start(), talk)
            well = behind is not None and stands(begin(own, state), begin(things[1], behind))
            return None if well else ("Refused", things[1])
        if word == "risk":
            return None if end_well(begin(*things[1:]), begin(guest, guest_state)) else ("Refused", things[1])
        if word == "swap":
            if things[1] not in rooms or things[1] == things[0]:
                return "InvalidSpot", things[1]
            other = rooms[things[1]]
            well = end_well(begin(own, state), begin(other[1], other[3]))
            well = well and end_well(begin(other[0], other[2]), begin(guest, guest_state))
            return None if well else ("Refused", things[1])
        return None

    def make(self, command):
        self.made.append(command)
        self.undone.clear()

    def undo(self):
        self.undone.append(self.made.pop())

    def redo(self):
        self.made.append(self.undone.pop())

    def copy(self):
        return PlainHall(self.made, self.undone)


def told_by(hall):
    """All that a hall tells of itself."""
    return {place: (hall.own(place), hall.guest(place), hall.pair(place), hall.talk(place)) for place in hall.places()}


def told_plainly(plain):
    return {place: (room[0], room[1], (room[2], room[3]), room[4]) for place, room in sorted(plain.rooms().items())}


def two_that_end_well(rng):
    while True:
        own = rng.choice([LOOP, QUICK, lively(rng, "abc", "xy"), lively(rng, "abc", "xy")])
        guest = turned(own) if rng.random() < 0.7 else rng.choice([EAR, lively(rng, "ab", "xy")])
        if end_well(own, guest):
            return own, guest


def random_command(rng, plain):
    """A command of a log, most of which are let."""
    rooms = plain.rooms()
    if not rooms or rng.random() < 0.15 and len(rooms) < 4:
        own, guest = two_that_end_well(rng)
        return ("seat", own, near(rng, guest) if rng.random() < 0.15 else guest)
    place = rng.choice(sorted(rooms)) if rng.random() < 0.95 else 7
    own = rooms.get(place, [LOOP])[0]
    newer = near(rng, own) if rng.random() < 0.6 else own if rng.random() < 0.5 else lively(rng, "abc", "xy")
    state = rng.choice(sorted(newer.book())) if rng.random() < 0.9 else "zz"
    if place in rooms and rng.random() < 0.6 and rooms[place][2] in newer.book():
        state = rooms[place][2]
    words = ["x", "y", "more", "stop"]
    return rng.choice([("go_on", place, rng.choice(words)), ("go_on", place, rng.choice(words)),
                       ("go_on", place, rng.choice(words)), ("leave", place),
                       ("exchange", place, newer, state), ("renew", place, newer), ("risk", place, newer, state),
                       ("swap", place, rng.choice(sorted(rooms))), ("turn", place)])


def rngs(many, first=0):
    return [random.Random(first + at) for at in range(many)]
