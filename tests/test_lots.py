"""[62] to [69]: lots that are dropped, and lots of changes, held against answers that are found plainly."""

import itertools
import unittest

from endswell.desks import Desk, changed, changed_by, turned
from endswell.errors import InvalidChange, InvalidChanges, InvalidDesk, InvalidLot
from endswell.lots import dropped, free_words, greatest_harmless, harmed_partner, harmless_lots, heard_words
from endswell.lots import is_harmed_partner, is_harmless, is_spare, least_harmful, least_hearing, live_states, lot_desk
from endswell.lots import must_say, needed_heard, said_again, said_words, spoiling_lots, standing_lots
from endswell.orders import same_partners
from endswell.stands import stands
from tests.helpers import Plain, frozen, junk, loop, not_desks, random_book, seeds, ways
from tests.plain import DONE, SMALL, PlainHeld, closed, lively, positional_partners, said_rows

NEVER = Desk({"s": ("says", {"more": "s", "x": "s"}), "h": ("hears", {"x": "h", "y": "h"})}, "s")


def door():
    book = {"s": ("says", {"in": "t", "out": "d"}), "t": ("says", {"more": "t", "quit": "d"}), "d": DONE}
    return Desk(book, "s")


def hope():
    book = {"s": ("hears", {"ok": "t", "no": "n"}), "n": ("says", {"sorry": "n"}), "t": DONE}
    return Desk(book, "s")


def stands_plainly(elder, newer):
    return PlainHeld(elder, newer).raised() is not None


def parts_of(items):
    return sorted(list(part) for many in range(len(items) + 1) for part in itertools.combinations(items, many))


def words_of_kind(desk, kind):
    return sorted((state, word) for state, row in desk.book().items() if row[0] == kind for word in row[1])


def without(desk, words):
    """The desk without some words, None if some state is left with none."""
    book = {state: (kind, {word: turns[word] for word in turns if (state, word) not in words})
            for state, (kind, turns) in desk.book().items()}
    return None if [1 for kind, turns in book.values() if kind != "done" and not turns] else Desk(book, desk.start())


def within(part, other):
    return set(part) < set(other)


def some_desks(many, kinds=("says", "says", "says", "hears")):
    """Desks with at most five said words, some of them with states that are not come to."""
    for rng in seeds(many):
        desk = lively(rng, "abc", "xyz", rng.randint(2, 3), kinds)
        if rng.random() < 0.1:
            desk = Desk(random_book(rng, "abt", "xy"), "a")
        if len(words_of_kind(desk, "says")) < 7:
            yield rng, desk


class SaidAndHeard(unittest.TestCase):
    def test_the_words(self):
        for _, desk in some_desks(250):
            self.assertEqual(said_words(desk), words_of_kind(desk, "says"))
            self.assertEqual(heard_words(desk), words_of_kind(desk, "hears"))
        self.assertEqual([heard_words(loop()), said_words(turned(loop())), said_words(Desk({"z": DONE}, "z"))],
                         [[], [], []])
        self.assertEqual(heard_words(NEVER), [("h", "x"), ("h", "y")])

    def test_dropped(self):
        many = 0
        for _, desk in some_desks(250):
            for lot in parts_of(said_words(desk)):
                right = without(desk, lot)
                if right is None:
                    with self.assertRaises(InvalidLot) as caught:
                        dropped(desk, lot)
                    self.assertIs(caught.exception.value, lot)
                    continue
                many += 1
                given = dropped(desk, lot)
                self.assertEqual(given, right)
                self.assertEqual(given, changed_by(desk, [("drop",) + each for each in lot]))
        self.assertGreater(many, 400)


NOT_LOTS = [
    [("s", "never")], [("t", "stop")], [("zz", "stop")], [["s", "stop"]], (("s", "stop"),), [("s", "stop"), ("s",
                                                                                                             "more")],
    [("s", "more"), ("s", "more")], [("s", "more"), ("s", "stop")], {("s", "stop"): 1}, [("s",)], [("s", "more", "s")],
    [("s", True)], [("s", None)], [("s", ["more"])], [(["s"], "more")], [("s", {})], [({}, "more")], "s", ["s"],
    [("s", "more"), None], [("s", "more"), 1], [(("s", "more"),)], [[("s", "more")]], loop(), [loop()], [("s", loop())],
]


class WrongLots(unittest.TestCase):
    def test_wrong_lots(self):
        for value in [thing for thing in junk() if thing != []] + NOT_LOTS:
            for function, more in ((dropped, []), (harmed_partner, []), (is_harmed_partner, [None]), (said_again, []),
                                   (is_harmed_partner, [loop()])):
                before = frozen(value)
                with self.assertRaises(InvalidLot) as caught:
                    function(loop(), value, *more)
                self.assertIs(caught.exception.value, value)
                self.assertEqual(frozen(value), before)
            self.assertIs(is_harmless(loop(), value), False, value)

    def test_heard_words_are_no_lot(self):
        for value in ([("s", "ok")], [("s", "no")]):
            self.assertIs(is_harmless(hope(), value), False)
            with self.assertRaises(InvalidLot):
                dropped(hope(), value)
        self.assertIs(is_spare(loop(), [("s", "more")]), False)


class Harmless(unittest.TestCase):
    def test_all_lists(self):
        told = [0, 0]
        for _, desk in some_desks(250):
            lots = [lot for lot in parts_of(said_words(desk)) if without(desk, lot)]
            harmless = [lot for lot in lots if stands_plainly(desk, without(desk, lot))]
            harmful = [lot for lot in lots if lot not in harmless]
            told = [told[0] + len(harmless), told[1] + len(harmful)]
            self.assertEqual(harmless_lots(desk), harmless)
            for lot in parts_of(said_words(desk)):
                self.assertIs(is_harmless(desk, lot), lot in harmless)
            self.assertEqual(greatest_harmless(desk),
                             [lot for lot in harmless if not any(within(lot, other) for other in harmless)])
            self.assertEqual(least_harmful(desk),
                             [lot for lot in harmful if not any(within(other, lot) for other in harmful)])
            self.assertEqual(must_say(desk), [word for word in said_words(desk)
                                              if not any(word in lot for lot in harmless)])
            self.assertEqual(free_words(desk), [word for word in said_words(desk) if [word] in harmless])
        self.assertGreater(min(told), 150)

    def test_what_holds_a_harmful_lot_may_be_harmless(self):
        self.assertEqual(greatest_harmless(door()), [[("s", "in"), ("t", "more")], [("s", "in"), ("t", "quit")],
                                                     [("s", "out"), ("t", "more")]])
        self.assertEqual(least_harmful(door()), [[("t", "quit")]])
        self.assertEqual([is_harmless(door(), [("t", "quit")]), is_harmless(door(), [("s", "in"), ("t", "quit")])],
                         [False, True])

    def test_a_desk_without_a_partner(self):
        self.assertEqual(harmless_lots(NEVER), [[], [("s", "more")], [("s", "x")]])
        self.assertEqual([must_say(NEVER), least_harmful(NEVER)], [[], []])
        self.assertEqual(greatest_harmless(NEVER), [[("s", "more")], [("s", "x")]])

    def test_the_only_word_of_a_state_that_cannot_come_must_be_said(self):
        desk = Desk({**loop().book(), "z": ("says", {"x": "z"})}, "s")
        self.assertEqual([must_say(desk), free_words(desk)], [[("s", "stop"), ("z", "x")], [("s", "more")]])


class Harmed(unittest.TestCase):
    def test_harmed_partners(self):
        told = [0, 0]
        for rng, desk in some_desks(250):
            lots = [lot for lot in parts_of(said_words(desk)) if without(desk, lot)]
            for lot in rng.sample(lots, min(3, len(lots))):
                bent = without(desk, lot)
                given = harmed_partner(desk, lot)
                told[given is None] += 1
                self.assertIs(given is None, stands_plainly(desk, bent))
                if given is not None:
                    self.assertEqual([Plain(desk, given).well, Plain(bent, given).well], [True, False])
                    self.assertIs(is_harmed_partner(desk, lot, given), True)
                for other in positional_partners(desk)[:5] + SMALL[::97]:
                    right = Plain(desk, other).well and not Plain(bent, other).well
                    self.assertIs(is_harmed_partner(desk, lot, other), right)
        self.assertGreater(min(told), 25)

    def test_wrong_partners(self):
        for value in not_desks():
            self.assertIs(is_harmed_partner(loop(), [("s", "stop")], value), False)


class SaidAgain(unittest.TestCase):
    def test_said_again(self):
        found = set()
        for _, desk in some_desks(250):
            for lot in [lot for lot in parts_of(said_words(desk)) if without(desk, lot)]:
                helps = [part for part in parts_of(lot)
                         if stands_plainly(desk, without(desk, [word for word in lot if word not in part]))]
                right = [part for part in helps if not any(within(other, part) for other in helps)]
                found.add(len(right) if right != [[]] else 0)
                self.assertEqual(said_again(desk, lot), right)
        self.assertTrue({0, 1, 2} <= found)

    def test_by_hand(self):
        self.assertEqual(said_again(ways(), [("a", "out"), ("b", "off")]), [[("a", "out")], [("b", "off")]])
        self.assertEqual([said_again(loop(), []), said_again(loop(), [("s", "stop")])], [[[]], [[("s", "stop")]]])


class Hearing(unittest.TestCase):
    def test_live_states_and_what_is_needed(self):
        for _, desk in some_desks(200, ("says", "hears", "hears")):
            rows = said_rows(desk.book())
            live = closed(rows, desk.start())
            needed = sorted((state, word) for state in live if rows[state][0] == "hears" for word in rows[state][1])
            self.assertEqual([live_states(desk), needed_heard(desk)], [sorted(live), needed])
            least = least_hearing(desk)
            if not stands_plainly(desk, NEVER):
                told = {state: rows[state] if state in live else row for state, row in desk.book().items()}
                self.assertEqual(least, Desk(told, desk.start()))
                self.assertIs(same_partners(desk, least), True)
            else:
                self.assertEqual(least, desk)

    def test_spare_words(self):
        told = [0, 0]
        for _, desk in some_desks(250, ("says", "hears", "hears")):
            for part in parts_of(words_of_kind(desk, "hears")):
                left = without(desk, part)
                right = left is not None and stands_plainly(desk, left)
                told[right] += 1
                self.assertIs(is_spare(desk, part), right)
                if left is not None and not stands_plainly(desk, NEVER):
                    self.assertIs(right, not set(part) & set(needed_heard(desk)))
                if left is not None:
                    self.assertIs(stands(left, desk), True)
        self.assertGreater(min(told), 300)

    def test_a_desk_without_a_partner(self):
        self.assertEqual([live_states(NEVER), needed_heard(NEVER), least_hearing(NEVER)], [["s"], [], NEVER])
        self.assertEqual([is_spare(NEVER, []), is_spare(NEVER, [("h", "x")]), is_spare(NEVER, [("h", "y")]),
                          is_spare(NEVER, [("h", "x"), ("h", "y")])], [True, True, True, False])
        dead = Desk({"s": ("says", {"x": "h", "y": "s"}), "h": ("hears", {"x": "h", "y": "t"}), "n": DONE,
                     "t": ("says", {"x": "t"})}, "s")
        self.assertEqual([live_states(dead), needed_heard(dead), least_hearing(dead)], [["h", "s"], [], dead])

    def test_wrong_lists(self):
        for value in [thing for thing in junk() if thing != []] + NOT_LOTS:
            self.assertIs(is_spare(turned(loop()), value), value == [("s", "more")], value)
        wrong = [[("s", "no"), ("s", "no")], [("s", "no"), ("n", "sorry")], (("s", "no"),), [["s", "no"]],
                 [("n", "sorry")], [("t", "no")], [("s", "never")], {("s", "no"): True}, [("s", "ok"), ("s", "no")]]
        self.assertIs(is_spare(hope(), [("s", "no")]), True)
        for value in wrong:
            self.assertIs(is_spare(hope(), value), False)


def some_changes(rng, desk):
    """Up to four changes by their form, most of which fit."""
    state, goal = rng.choice(sorted(desk.book())), rng.choice(sorted(desk.book()))
    word = rng.choice("xyz")
    changes = [("add", state, word, goal), ("drop", state, rng.choice("xy")), ("lead", state, rng.choice("xy"), goal),
               ("put", "new", (rng.choice(["says", "hears"]), {word: "new", "o": goal})), ("begin", state),
               ("out", "new"), ("lead", state, word, "new"), ("drop", goal, "y"), ("add", goal, "y", state)]
    return rng.sample(changes, rng.randint(0, 4))


def behind(desk, changes):
    """The desk behind changes, None if one of them does not fit."""
    try:
        return changed_by(desk, changes)
    except InvalidChange:
        return None


class LotsOfChanges(unittest.TestCase):
    def test_all_lots(self):
        found = set()
        for rng, desk in some_desks(250):
            changes = some_changes(rng, desk)
            desks = [(lot, behind(desk, [changes[at] for at in lot])) for lot in parts_of(range(len(changes)))]
            for lot, right in desks:
                self.assertEqual(lot_desk(desk, changes, lot), right)
            bad = [lot for lot, other in desks if other is not None and not stands_plainly(desk, other)]
            good = [lot for lot, other in desks if other is not None and stands_plainly(desk, other)]
            found.add((len(bad) > 0, len(good) > 1, None in [other for _, other in desks]))
            self.assertEqual(spoiling_lots(desk, changes),
                             [lot for lot in bad if not any(within(other, lot) for other in bad)])
            self.assertEqual(standing_lots(desk, changes),
                             [lot for lot in good if not any(within(lot, other) for other in good)])
        self.assertEqual(len(found), 8)

    def test_a_change_can_make_up_for_another_one(self):
        changes = [("drop", "t", "quit"), ("drop", "s", "in")]
        self.assertEqual([spoiling_lots(door(), changes), standing_lots(door(), changes)], [[[0]], [[0, 1]]])
        changes = [("lead", "s", "stop", "z"), ("put", "z", ("hears", {"x": "t"}))]
        self.assertEqual([lot_desk(loop(), changes, [0]), lot_desk(loop(), changes, [0, 1])], [None, None])
        self.assertEqual(lot_desk(loop(), changes[::-1], [0, 1]).book()["s"][1]["stop"], "z")
        self.assertEqual([spoiling_lots(loop(), changes[::-1]), standing_lots(loop(), changes[::-1])], [[[0, 1]],
                                                                                                        [[0]]])

    def test_no_changes(self):
        self.assertEqual([lot_desk(loop(), [], []), spoiling_lots(loop(), []), standing_lots(loop(), [])],
                         [loop(), [], [[]]])

    def test_wrong_lots_of_changes(self):
        changes = [("drop", "s", "stop"), ("begin", "t")]
        self.assertEqual(lot_desk(loop(), changes, [1]), changed(loop(), ("begin", "t")))
        wrong = [[2], [-1], [True], [False, 1], [1, 0], [0, 0], (0,), (), {0: 1}, [[0]], ["0"], [None], [0, 1, 2], 0,
                 [(0,)], [0, True], [10 ** 29], loop(), [0.5]]
        for value in [thing for thing in junk() if thing != []] + wrong:
            with self.assertRaises(InvalidLot) as caught:
                lot_desk(loop(), changes, value)
            self.assertIs(caught.exception.value, value)

    def test_wrong_changes(self):
        wrong = [("begin", "t"), [("begin",)], [("begin", "t", "t")], [["begin", "t"]], (("begin", "t"),), [None],
                 [("begin", True)], {("begin", "t"): 1}, [("never", "t")], [("put", "t", ("done", []))], loop()]
        for value in [thing for thing in junk() if thing != []] + wrong:
            for function, more in ((lot_desk, [[]]), (lot_desk, [None]), (spoiling_lots, []), (standing_lots, [])):
                with self.assertRaises(InvalidChanges) as caught:
                    function(loop(), value, *more)
                self.assertIs(caught.exception.value, value)
                with self.assertRaises(InvalidDesk):
                    function("s", value, *more)

    def test_what_was_passed_may_change_later(self):
        turns = {"x": "new", "o": "s"}
        made = lot_desk(loop(), [("put", "new", ("says", turns))], [0])
        before = frozen(made)
        turns.clear()
        self.assertEqual(frozen(made), before)
