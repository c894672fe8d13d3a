"""[89] to [98]: halls, held against a plain account of their commands."""

import unittest

from endswell.desks import Desk, turned
from endswell.errors import InvalidDesk, InvalidHall, InvalidLog, InvalidSpot, InvalidState, InvalidWord
from endswell.errors import DeskError, NothingToRedo, NothingToUndo, Refused
from endswell.facing import end_well
from endswell.hall import Hall, replayed
from endswell.stands import is_spoiler, stands
from tests.halls import EAR, LOOP, QUICK, PlainHall, begin, random_command, rngs, told_by, told_plainly
from tests.helpers import Plain, all_rows, frozen, junk, not_desks, not_states, not_talks, spoil
from tests.plain import DONE, lively

SLOW = Desk({"s": ("says", {"more": "s"}), "t": DONE}, "s")


def carry_out(hall, command):
    return getattr(hall, command[0])(*command[1:])


def is_same(case, hall, plain):
    """Look whether a hall is as its plain account tells."""
    case.assertEqual(told_by(hall), told_plainly(plain))
    case.assertEqual(list(told_by(hall)), sorted(plain.rooms()))
    case.assertEqual(hall.log(), plain.made)


def moment(hall):
    """All that can be told of a hall, by copies also what can be undone and made again."""
    told = [told_by(hall), hall.log()]
    for step in (Hall.undo, Hall.redo):
        other = hall.copy()
        try:
            while True:
                step(other)
                told.append((told_by(other), other.log()))
        except (NothingToUndo, NothingToRedo) as error:
            told.append(error.__class__.__name__)
    return told


class AgainstThePlainAccount(unittest.TestCase):
    def step(self, rng, hall, plain):
        """Make one command, or take one back, or make one again, if it is let."""
        chosen = rng.random()
        if chosen < 0.15:
            self.back(hall.undo, plain.undo, plain.made, NothingToUndo)
        elif chosen < 0.27:
            self.back(hall.redo, plain.redo, plain.undone, NothingToRedo)
        else:
            self.command(hall, plain, random_command(rng, plain))
        is_same(self, hall, plain)

    def back(self, step, plain_step, left, error):
        if left:
            self.assertIsNone(step())
            plain_step()
        else:
            with self.assertRaises(error):
                step()

    def command(self, hall, plain, command):
        refused = plain.refuses(command)
        self.told[(command[0], refused and refused[0])] = self.told.get((command[0], refused and refused[0]), 0) + 1
        if refused is not None:
            before = moment(hall)
            with self.assertRaises(DeskError) as caught:
                carry_out(hall, command)
            self.assertEqual(caught.exception.__class__.__name__, refused[0])
            self.assertIs(caught.exception.value, refused[1])
            self.assertEqual(moment(hall), before)
            return
        many = sum(made[0] == "seat" for made in plain.made)
        plain.make(command)
        given = carry_out(hall, command)
        if command[0] == "seat":
            self.assertEqual(given, many)
        elif command[0] == "go_on":
            self.assertEqual(given, told_plainly(plain)[command[1]][2])
        else:
            self.assertIsNone(given)

    def blocks(self, rng, hall, plain, deep, steps):
        """Commands within blocks, which leave all as it was, also by an error; asking in them and behind them."""
        for _ in range(steps):
            self.step(rng, hall, plain)
            if deep < 3 and rng.random() < 0.12:
                before, inside = moment(hall), plain.copy()
                if rng.random() < 0.5:
                    with hall.trial() as named:
                        self.assertIs(named, hall)
                        self.blocks(rng, hall, inside, deep + 1, rng.randint(0, 5))
                else:
                    self.attempt(rng, hall, inside, deep)
                self.assertEqual(moment(hall), before)
                is_same(self, hall, plain)

    def attempt(self, rng, hall, inside, deep):
        result = [rng.random()]

        def action(given):
            self.assertIs(given, hall)
            self.blocks(rng, hall, inside, deep + 1, rng.randint(0, 5))
            if result[0] < 0.4:
                raise KeyError("left by an error")
            return result
        if result[0] < 0.4:
            with self.assertRaises(KeyError):
                hall.attempt(action)
        else:
            self.assertIs(hall.attempt(action), result)

    def test_commands_and_blocks(self):
        self.told = {}
        for rng in rngs(150):
            hall, plain = Hall(), PlainHall()
            self.blocks(rng, hall, plain, 0, 22)
            other = hall.copy()
            self.assertEqual(moment(other), moment(hall))
            kept, before = plain.copy(), moment(hall)
            self.blocks(rng, other, kept, 2, 6)
            self.assertEqual(moment(hall), before)
            self.blocks(rng, hall, plain, 2, 6)
            is_same(self, other, kept)
        least = {("seat", "Refused"): 10, ("leave", None): 10, ("renew", None): 15, ("swap", None): 3, ("turn",
                                                                                                        None): 50,
                 ("exchange", None): 40, ("exchange", "Refused"): 40, ("exchange", "InvalidState"): 5,
                 ("risk", None): 40, ("risk", "Refused"): 20, ("risk", "InvalidState"): 5, ("renew", "Refused"): 40,
                 ("swap", "InvalidSpot"): 20, ("swap", "Refused"): 20, ("go_on", None): 200, ("go_on", "Refused"): 50,
                 ("leave", "Refused"): 50, ("turn", "InvalidSpot"): 3}
        for key, many in least.items():
            self.assertGreaterEqual(self.told.get(key, 0), many, (key, self.told))

    def test_what_is_asked(self):
        told = {True: 0, False: 0}
        for rng in rngs(80, 5000):
            hall, plain = Hall(), PlainHall()
            for _ in range(15):
                command = random_command(rng, plain)
                if plain.refuses(command) is None:
                    plain.make(command)
                    carry_out(hall, command)
                before = moment(hall)
                self.ask(rng, hall, plain, told)
                self.assertEqual(moment(hall), before)
        self.assertGreater(min(told.values()), 100)

    def ask(self, rng, hall, plain, told):
        for place, (own, guest, state, guest_state, talk) in plain.rooms().items():
            facing = Plain(begin(own, state), begin(guest, guest_state))
            self.assertEqual(hall.words(place), list(facing.nexts[facing.first]))
            self.assertIs(hall.is_ended(place), facing.kind[facing.first] == "ended")
            given = hall.still_ends(place)
            self.assertEqual(facing.kind[facing.behind(given)], "ended")
            self.assertEqual(len(given), facing.least_out(facing.first))
            for value in all_rows(["x", "y"], 2) + [["stop"], given]:
                right = len(value) == len(given) and facing.behind(value) in facing.of_kind("ended")
                self.assertIs(hall.still_ends_by(place, value), right)
            newer = random_command(rng, plain)
            newer = next((thing for thing in newer if isinstance(thing, Desk)), rng.choice([own, LOOP]))
            states = sorted(newer.book())
            safe = [one for one in states if Plain(begin(newer, one), begin(guest, guest_state)).well]
            good = [one for one in states if stands(begin(own, state), begin(newer, one))]
            self.assertEqual([hall.states_for(place, newer), hall.safe_with(place, newer)], [good, safe])
            self.assertTrue(set(good) <= set(safe))
            for one in states:
                found = hall.spoiler(place, newer, one)
                self.assertIs(found is None, one in good)
                if found is not None:
                    self.assertIs(is_spoiler(begin(own, state), begin(newer, one), found), True)
            self.assertIs(hall.renewable(place, newer), plain.refuses(("renew", place, newer)) is None)
            told[hall.renewable(place, newer)] += 1
            self.assertEqual(hall.fits_with(place), [other for other in sorted(plain.rooms()) if other != place
                                                     and plain.refuses(("swap", place, other)) is None])

    def test_both_always_still_end_well(self):
        for rng in rngs(60, 9000):
            hall, plain = Hall(), PlainHall()
            for _ in range(20):
                command = random_command(rng, plain)
                if plain.refuses(command) is None:
                    plain.make(command)
                    carry_out(hall, command)
            for own, guest, pair, _ in told_by(hall).values():
                self.assertIs(end_well(begin(own, pair[0]), begin(guest, pair[1])), True)


class ByHand(unittest.TestCase):
    def test_the_numbers_of_places(self):
        hall = Hall()
        self.assertEqual([hall.places(), hall.seat(LOOP, EAR), hall.seat(QUICK, EAR), hall.places()], [[], 0, 1, [0,
                                                                                                                  1]])
        hall.go_on(0, "stop")
        hall.leave(0)
        self.assertEqual([hall.places(), hall.seat(LOOP, EAR), hall.places()], [[1], 2, [1, 2]])
        hall.undo()
        self.assertEqual([hall.places(), hall.seat(QUICK, EAR)], [[1], 2])
        with hall.trial():
            self.assertEqual([hall.seat(LOOP, EAR), hall.seat(LOOP, EAR)], [3, 4])
        self.assertEqual([hall.seat(LOOP, EAR), hall.places()], [3, [1, 2, 3]])
        hall.undo()
        hall.redo()
        self.assertEqual([hall.places(), hall.seat(LOOP, EAR)], [[1, 2, 3], 4])

    def test_undo_and_redo(self):
        hall = Hall()
        for step, error in ((hall.undo, NothingToUndo), (hall.redo, NothingToRedo)):
            with self.assertRaises(error):
                step()
        hall.seat(LOOP, EAR)
        hall.go_on(0, "more")
        hall.undo()
        with self.assertRaises(Refused):
            hall.go_on(0, "never")
        hall.places(), hall.words(0), hall.fits_with(0), hall.copy(), hall.log()
        self.assertIsNone(hall.redo())
        self.assertEqual(hall.talk(0), ["more"])
        hall.undo()
        hall.go_on(0, "stop")
        with self.assertRaises(NothingToRedo):
            hall.redo()
        self.assertEqual(hall.pair(0), ("t", "q"))

    def test_blocks_reach_behind_their_beginning(self):
        hall = Hall()
        hall.seat(LOOP, EAR)
        hall.go_on(0, "more")
        hall.undo()
        before = moment(hall)
        with hall.trial():
            hall.undo()
            self.assertEqual(hall.places(), [])
            hall.redo()
            hall.redo()
            self.assertEqual(hall.talk(0), ["more"])
            hall.go_on(0, "stop")
        self.assertEqual(moment(hall), before)
        hall.redo()
        self.assertEqual(hall.talk(0), ["more"])

    def test_a_block_begins_when_it_is_entered(self):
        hall = Hall()
        block = hall.trial()
        hall.seat(LOOP, EAR)
        with block as given:
            self.assertIs(given, hall)
            hall.go_on(0, "stop")
            copied = hall.copy()
        self.assertEqual([hall.talk(0), copied.talk(0)], [[], ["stop"]])
        copied.undo()
        self.assertEqual(copied.talk(0), [])

    def test_blocks_that_are_left_by_an_error(self):
        hall = Hall()
        hall.seat(LOOP, EAR)
        with self.assertRaises(Refused) as caught:
            with hall.trial():
                hall.go_on(0, "more")
                with hall.trial():
                    hall.go_on(0, "stop")
                    hall.go_on(0, "stop")
        self.assertEqual([caught.exception.value, hall.talk(0), len(hall.log())], ["stop", [], 1])

    def test_blocks_ten_deep(self):
        hall = Hall()
        hall.seat(LOOP, EAR)

        def deeper(many):
            def action(given):
                given.go_on(0, "more")
                if many:
                    self.assertEqual(given.attempt(deeper(many - 1)), many)
                self.assertEqual(len(given.talk(0)), 11 - many)
                return many + 1
            return action
        self.assertEqual(hall.attempt(deeper(10)), 11)
        self.assertEqual(hall.talk(0), [])

    def test_desks_are_told_as_they_were_passed(self):
        hall = Hall()
        hall.seat(LOOP, EAR)
        hall.go_on(0, "more")
        newer = Desk({"a": ("says", {"more": "b"}), "b": ("says", {"stop": "c"}), "c": DONE}, "a")
        hall.exchange(0, newer, "b")
        self.assertEqual([hall.own(0), hall.guest(0), hall.pair(0), hall.talk(0)], [newer, EAR, ("b", "p"), ["more"]])
        hall.turn(0)
        self.assertEqual([hall.own(0), hall.guest(0), hall.pair(0), hall.talk(0)], [EAR, newer, ("p", "b"), ["more"]])
        more = Desk({"p": ("hears", {"more": "p", "stop": "q"}), "q": DONE, "x": ("hears", {"stop": "q"})}, "x")
        self.assertEqual([hall.states_for(0, more), hall.safe_with(0, more)], [["p"], ["p", "x"]])
        hall.risk(0, more, "x")
        self.assertEqual([hall.renewable(0, EAR), hall.renewable(0, turned(QUICK)), hall.renewable(0, more)],
                         [True, False, False])

    def test_swap_lets_the_talks_stay(self):
        hall = Hall()
        hall.seat(LOOP, EAR)
        hall.seat(LOOP, turned(LOOP))
        hall.go_on(0, "more")
        hall.go_on(1, "stop")
        self.assertEqual([hall.fits_with(0), hall.fits_with(1)], [[], []])
        hall.undo()
        self.assertEqual([hall.fits_with(0), hall.swap(0, 1)], [[1], None])
        self.assertEqual([hall.guest(0), hall.guest(1), hall.talk(0), hall.talk(1), hall.pair(1)],
                         [turned(LOOP), EAR, ["more"], [], ("s", "p")])

    def test_halls_are_equal_to_themselves(self):
        hall = Hall()
        self.assertTrue(hall == hall)
        self.assertFalse(hall == LOOP)
        self.assertFalse(LOOP == hall)


class Logs(unittest.TestCase):
    def test_replayed(self):
        for rng in rngs(60):
            hall, plain = Hall(), PlainHall()
            for _ in range(12):
                command = random_command(rng, plain)
                if plain.refuses(command) is None:
                    plain.make(command)
                    carry_out(hall, command)
            log = hall.log()
            other = replayed(Hall(), log)
            self.assertEqual(moment(other)[:2], moment(hall)[:2])
            self.assertEqual([told_by(other), other.log()], [told_by(hall), plain.made])
            both = PlainHall(plain.made)
            for command in random_command(rng, plain), ("turn", 0):
                before = moment(hall)
                if plain.refuses(command) is None:
                    both.make(command)
                    is_same(self, replayed(hall, [command]), both)
                    both.undo()
                else:
                    with self.assertRaises(DeskError) as caught:
                        replayed(hall, [command])
                    self.assertEqual((caught.exception.__class__.__name__, caught.exception.value),
                                     plain.refuses(command))
                self.assertEqual(moment(hall), before)

    def test_a_log_is_made_behind(self):
        hall = Hall()
        hall.seat(LOOP, EAR)
        hall.go_on(0, "more")
        again = replayed(hall, [("seat", QUICK, EAR), ("go_on", 0, "stop"), ("leave", 0)])
        self.assertEqual([again.places(), len(again.log()), hall.places(), len(hall.log())], [[1], 5, [0], 2])
        for _ in range(5):
            again.undo()
        self.assertEqual([again.places(), hall.talk(0)], [[], ["more"]])

    def test_wrong_logs(self):
        hall = Hall()
        hall.seat(LOOP, EAR)
        wrong = [(("turn", 0),), [["turn", 0]], [("turn",)], [("turn", 0, 0)], [("seat", LOOP)], [("go_on", 0)],
                 ("turn", 0),
                 [("exchange", 0, LOOP)], [("undo",)], [("redo",)], [("try", [])], [("words", 0)], [("ends", 0)],
                 [("states", 0, LOOP)], [("Turn", 0)], [()], [None], [("turn", 0), None], {("turn", 0): 1}, hall,
                 [(1, 0)], [(["turn"], 0)], [({}, 0)], [(None,)], LOOP, "turn", [("turn", 0), ("never", 0)], [(True,
                                                                                                               0)]]
        for value in [thing for thing in junk() if thing != []] + wrong:
            with self.assertRaises(InvalidLog) as caught:
                replayed(hall, value)
            self.assertIs(caught.exception.value, value)
        for value in junk() + [LOOP, [hall], (hall,), "hall"]:
            for log in ([], None, [("turn", 0)]):
                with self.assertRaises(InvalidHall) as caught:
                    replayed(value, log)
                self.assertIs(caught.exception.value, value)

    def test_the_error_of_the_first_command_that_raises_one(self):
        hall = Hall()
        hall.seat(LOOP, EAR)
        for command, error, at in ((("turn", 7), InvalidSpot, 1), (("turn", [0]), InvalidSpot, 1),
                                   (("go_on", 0, None), InvalidWord, 2), (("go_on", 0, "never"), Refused, 2),
                                   (("seat", None, EAR), InvalidDesk, 1), (("seat", LOOP, LOOP), Refused, 2),
                                   (("exchange", 0, QUICK, {}), InvalidState, 3), (("leave", 0), Refused, 1),
                                   (("swap", 0, 0), InvalidSpot, 2), (("renew", 0, SLOW), Refused, 2)):
            log = [("turn", 0), ("turn", 0), command, ("turn", None)]
            with self.assertRaises(error) as caught:
                replayed(hall, log)
            self.assertIs(caught.exception.value, command[at])
            self.assertEqual(len(hall.log()), 1)


class WrongArguments(unittest.TestCase):
    def check(self, hall, error, value, method, *arguments):
        before, held = moment(hall), frozen(value)
        with self.assertRaises(error) as caught:
            getattr(hall, method)(*arguments)
        self.assertIs(caught.exception.value, value)
        self.assertIs(type(caught.exception), error)
        self.assertEqual(frozen(value), held)
        self.assertEqual(moment(hall), before)

    def hall(self):
        hall = Hall()
        hall.seat(LOOP, EAR)
        hall.seat(QUICK, EAR)
        hall.go_on(0, "more")
        hall.undo()
        return hall

    def test_spots(self):
        hall = self.hall()
        one = ("own", "guest", "talk", "pair", "words", "is_ended", "leave", "still_ends", "fits_with", "turn")
        two = ("go_on", "renew", "renewable", "states_for", "safe_with", "still_ends_by", "swap")
        wrong = [thing for thing in junk() if isinstance(thing, bool) or thing not in (0, 1)]
        for value in wrong + [2, "0", [0], (0,), {0: 0}, LOOP, hall]:
            for method in one:
                self.check(hall, InvalidSpot, value, method, value)
            for method in two:
                for more in (None, "more", LOOP, 1):
                    self.check(hall, InvalidSpot, value, method, value, more)
            for method in ("exchange", "risk", "spoiler"):
                self.check(hall, InvalidSpot, value, method, value, QUICK, "s")
                self.check(hall, InvalidSpot, value, method, value, None, None)
            self.check(hall, InvalidSpot, value, "swap", 0, value)
        for place in (0, 1):
            for method in one:
                self.check(Hall(), InvalidSpot, place, method, place)
        spot = 1
        self.check(hall, InvalidSpot, spot, "swap", 1, spot)

    def test_desks_and_states(self):
        hall = self.hall()
        for value in not_desks():
            for method in ("renew", "renewable", "states_for", "safe_with"):
                self.check(hall, InvalidDesk, value, method, 0, value)
            for method in ("exchange", "risk", "spoiler"):
                self.check(hall, InvalidDesk, value, method, 0, value, "s")
                self.check(hall, InvalidDesk, value, method, 0, value, None)
            self.check(hall, InvalidDesk, value, "seat", value, EAR)
            self.check(hall, InvalidDesk, value, "seat", value, None)
            self.check(hall, InvalidDesk, value, "seat", LOOP, value)
        for value in not_states() + ["p", "q"]:
            for method in ("exchange", "risk", "spoiler"):
                self.check(hall, InvalidState, value, method, 0, QUICK, value)
                self.check(hall, InvalidState, value, method, 0, SLOW, value)

    def test_words_and_what_is_refused(self):
        hall = self.hall()
        for value in [thing for thing in junk()] + ["More", ["more"], ("more",), LOOP]:
            self.check(hall, InvalidWord, value, "go_on", 0, value)
        for word in ("never", "s", "p"):
            self.check(hall, Refused, word, "go_on", 0, word)
        for guest in (LOOP, SLOW, turned(SLOW), turned(QUICK)):
            self.check(hall, Refused, guest, "seat", LOOP, guest)
        place = 0
        self.check(hall, Refused, place, "leave", place)
        for newer, state in ((SLOW, "s"), (LOOP, "t"), (EAR, "p")):
            self.check(hall, Refused, newer, "exchange", 0, newer, state)
            self.check(hall, Refused, newer, "risk", 0, newer, state)
        self.check(hall, Refused, SLOW, "renew", 0, SLOW)

    def test_talks_that_still_end(self):
        hall = self.hall()
        self.assertIs(hall.still_ends_by(0, ["stop"]), True)
        for value in not_talks() + [["more", "stop"], ["more"], ["stop", "stop"]]:
            self.assertIs(hall.still_ends_by(0, value), False)


class WhatWasReturned(unittest.TestCase):
    def test_changing_it_changes_nothing(self):
        hall, before = Hall(), None
        hall.seat(LOOP, EAR)
        hall.go_on(0, "more")
        for _ in range(2):
            given = [hall.places(), hall.talk(0), hall.words(0), hall.states_for(0, LOOP), hall.safe_with(0, LOOP),
                     hall.still_ends(0), hall.spoiler(0, SLOW, "s"), hall.fits_with(0), hall.log(), told_by(hall)]
            told = frozen([given[:6], given[8:]])
            self.assertEqual(told, before or told)
            before = told
            spoil(given)
            hall.own(0).book().clear()
        log = hall.log()
        again = replayed(hall, log[1:])
        log.clear()
        self.assertEqual([again.talk(0), len(again.log())], [["more", "more"], 3])

    def test_what_is_asked_in_any_order(self):
        for rng in rngs(40):
            hall, plain = Hall(), PlainHall()
            for _ in range(8):
                command = random_command(rng, plain)
                if plain.refuses(command) is None:
                    plain.make(command)
                    carry_out(hall, command)
            newer = lively(rng, "abc", "xy")
            questions = [(method, (place,) + more) for place in hall.places() for method, more in (
                ("own", ()), ("guest", ()), ("talk", ()), ("pair", ()), ("words", ()), ("is_ended", ()),
                ("still_ends", ()), ("fits_with", ()), ("states_for", (newer,)), ("safe_with", (newer,)),
                ("renewable", (newer,)), ("spoiler", (newer, newer.start())))]
            answers = [frozen(getattr(hall, method)(*arguments)) for method, arguments in questions]
            both = list(zip(questions, answers))
            rng.shuffle(both)
            for (method, arguments), answer in both:
                with hall.trial():
                    hall.seat(LOOP, EAR)
                    hall.undo()
                self.assertEqual(frozen(getattr(hall, method)(*arguments)), answer)


class GreatDesks(unittest.TestCase):
    def test_great_desks_in_a_hall(self):
        names = [chr(97 + at // 26) + chr(97 + at % 26) for at in range(150)]
        book = {name: ("says", {"on": names[at - 1], "back": names[at // 2]}) for at, name in enumerate(names)}
        own = Desk({**book, "aa": DONE}, names[149])
        hall = Hall()
        hall.seat(own, turned(own))
        hall.go_on(0, "on")
        self.assertEqual(hall.pair(0), (names[148], names[148]))
        self.assertEqual([len(hall.states_for(0, own)), hall.safe_with(0, own)], [1, [names[148]]])
        self.assertEqual([hall.renewable(0, own), len(hall.still_ends(0))], [True, 8])
        less = Desk({**own.book(), names[148]: ("says", {"on": names[147]})}, names[149])
        self.assertEqual([hall.exchange(0, less, names[148]), hall.words(0)], [None, ["on"]])
