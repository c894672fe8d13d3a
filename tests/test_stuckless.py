"""[57] to [61]: desks that are safe in the place of others, held against answers that are found plainly."""

import itertools
import unittest

from endswell.desks import Desk, changed, turned
from endswell.facing import never_stuck
from endswell.stuckless import both_orders, is_safe, is_safe_table, is_sticking_desk, is_unfit_talk, safe_pairs
from endswell.stuckless import sticking_desk, unfit_talk
from tests.helpers import Plain, all_rows, junk, loop, not_desks, not_talks, random_desk, seeds
from tests.plain import DONE, SMALL, PlainHeld, lively, near, two_desks

MORES = Desk({"s": ("says", {"more": "s"})}, "s")
STOPS = Desk({"s": ("says", {"stop": "t"}), "t": DONE}, "s")


class PlainSafe:
    """What [58] says of two desks."""

    def __init__(self, elder, newer):
        self.elder, self.newer = elder.book(), newer.book()
        self.first = (elder.start(), newer.start())
        self.all_pairs = sorted((a, b) for a in self.elder for b in self.newer)
        self.come = [self.first]
        for pair in self.come:
            self.come += sorted(set(self.steps(pair).values()) - set(self.come))
        self.safe = all(self.fits(pair) for pair in self.come)

    def fits(self, pair):
        (kind, elder), (other, newer) = self.elder[pair[0]], self.newer[pair[1]]
        if kind == "done" or other == "done":
            return kind == other
        return kind == other and (set(newer) <= set(elder) if kind == "says" else set(elder) <= set(newer))

    def steps(self, pair):
        (kind, elder), (other, newer) = self.elder[pair[0]], self.newer[pair[1]]
        return {word: (elder[word], newer[word]) for word in elder if kind == other and word in newer}

    def behind(self, talk):
        pair = self.first
        for word in talk:
            if pair is not None:
                pair = self.steps(pair).get(word)
        return pair

    def is_table(self, pairs):
        return self.first in pairs and all(self.fits(pair) and set(self.steps(pair).values()) <= set(pairs)
                                           for pair in pairs)


def get_along(one, other):
    """What [57] says of two desks."""
    plain = Plain(one, other)
    return all(plain.kind[pair] != "stuck" for pair in plain.come)


def two_alike(rng):
    """Two desks that are often alike, with words that are heard and said."""
    if rng.random() < 0.3:
        return random_desk(rng, "abc", "xy"), random_desk(rng, "pqr", "xy")
    elder = lively(rng, names="ab")
    return (near(rng, elder), elder) if rng.random() < 0.5 else (elder, near(rng, elder))


def held(many):
    for rng in seeds(many):
        elder, newer = two_alike(rng)
        yield rng, elder, newer, PlainSafe(elder, newer)


class Safe(unittest.TestCase):
    def test_safe_pairs(self):
        told = [0, 0]
        for _, elder, newer, plain in held(400):
            told[plain.safe] += 1
            self.assertIs(is_safe(elder, newer), plain.safe)
            self.assertEqual(safe_pairs(elder, newer), sorted(plain.come) if plain.safe else None)
        self.assertGreater(min(told), 60)

    def test_every_desk_that_gets_along_is_kept(self):
        told = [0, 0]
        for _, elder, newer, plain in held(60):
            along = [other for other in SMALL if get_along(elder, other)]
            wrong = [other for other in along if not get_along(newer, other)]
            told[len(wrong) > 0] += 1
            if plain.safe:
                self.assertEqual(wrong, [])
            for other in wrong[:5]:
                self.assertIs(is_sticking_desk(elder, newer, other), True)
        self.assertGreater(min(told), 10)

    def test_one_desk_tells(self):
        for _, elder, newer, plain in held(200):
            self.assertIs(never_stuck(elder, turned(elder)), True)
            self.assertIs(never_stuck(newer, turned(elder)), plain.safe)
            self.assertIs(is_safe(turned(newer), turned(elder)), plain.safe)

    def test_each_desk_is_safe_in_its_own_place(self):
        for desk in SMALL[:200]:
            self.assertIs(is_safe(desk, desk), True)
            self.assertEqual(safe_pairs(desk, desk), sorted((state, state) for state in desk.book()))
            self.assertIsNone(sticking_desk(desk, desk))

    def test_by_hand(self):
        self.assertEqual([is_safe(loop(), MORES), is_safe(MORES, loop()), is_safe(loop(), STOPS)], [True, False, True])
        ears, less = turned(loop()), turned(STOPS)
        self.assertEqual([is_safe(ears, less), is_safe(less, ears)], [False, True])
        self.assertEqual([is_safe(ears, loop()), is_safe(Desk({"z": DONE}, "z"), loop())], [False, False])
        self.assertIs(is_safe(Desk({"z": DONE}, "z"), Desk({"y": DONE, "n": ("says", {"x": "y"})}, "y")), True)


class Tables(unittest.TestCase):
    def test_tables_of_few_pairs(self):
        told = [0, 0]
        for _, elder, newer, plain in held(200):
            if len(plain.all_pairs) > 9:
                continue
            for many in range(len(plain.all_pairs) + 1):
                for pairs in itertools.combinations(plain.all_pairs, many):
                    right = plain.is_table(pairs)
                    told[right] += 1
                    self.assertIs(is_safe_table(elder, newer, list(pairs)), right)
        self.assertGreater(min(told), 60)

    def test_what_is_returned_is_one_and_others_bent_in_one_place_are_none(self):
        many = 0
        for _, elder, newer, plain in held(250):
            pairs = safe_pairs(elder, newer)
            if pairs is None:
                continue
            self.assertIs(is_safe_table(elder, newer, pairs), True)
            for at in range(len(pairs)):
                self.assertIs(is_safe_table(elder, newer, pairs[:at] + pairs[at + 1:]), False)
                self.assertIs(is_safe_table(elder, newer, pairs[:at + 1] + pairs[at:]), False)
            many += len(pairs) > 1
            self.assertIs(is_safe_table(elder, newer, pairs[::-1]), len(pairs) == 1)
            for other in plain.all_pairs:
                more = sorted(set(pairs + [other]))
                self.assertIs(is_safe_table(elder, newer, more), plain.is_table(more))
        self.assertGreater(many, 40)

    def test_wrong_tables(self):
        right = [("s", "s"), ("t", "t")]
        self.assertIs(is_safe_table(loop(), STOPS, right), True)
        wrong = [tuple(right), [list(pair) for pair in right], {pair: 0 for pair in right}, right + [None],
                 right + [("t", "zz")], [("s", "s"), ("t", True)], [("s", "s"), ("t",)], [("s", "s"), ("t", "t", "t")],
                 [(("s", "s"), ("t", "t"))], [["s", "s"]], [("s", "s"), ("t", [])], set(right)]
        for value in junk() + wrong + [loop()]:
            self.assertIs(is_safe_table(loop(), STOPS, value), False, value)


class Talks(unittest.TestCase):
    def test_unfit_talks(self):
        told, longer = [0, 0], 0
        for _, elder, newer, plain in held(250):
            talks = [talk for talk in all_rows("xy", 5) if plain.behind(talk) and not plain.fits(plain.behind(talk))]
            given = unfit_talk(elder, newer)
            told[given is None] += 1
            if plain.safe:
                self.assertEqual([talks, given], [[], None])
            else:
                self.assertIn(given, [talk for talk in talks if len(talk) == len(talks[0])])
            for value in all_rows("xy", 4):
                longer += value in talks and len(value) > len(given)
                self.assertIs(is_unfit_talk(elder, newer, value), value in talks)
        self.assertGreater(min(told), 40)
        self.assertGreater(longer, 40)

    def test_past_a_pair_that_does_not_fit(self):
        elder = Desk({"a": ("says", {"x": "t"}), "t": DONE}, "a")
        newer = Desk({"a": ("says", {"x": "b", "y": "b"}), "b": ("says", {"x": "b"})}, "a")
        self.assertEqual([unfit_talk(elder, newer), is_unfit_talk(elder, newer, []), is_unfit_talk(elder, newer, ["x"]),
                          is_unfit_talk(elder, newer, ["y"]), is_unfit_talk(elder, newer, ["x", "x"])],
                         [[], True, True, False, False])

    def test_wrong_talks(self):
        for value in not_talks():
            self.assertIs(is_unfit_talk(STOPS, loop(), value), False)


class Sticking(unittest.TestCase):
    def test_sticking_desks(self):
        for _, elder, newer, plain in held(150):
            given = sticking_desk(elder, newer)
            self.assertIs(given is None, plain.safe)
            if given is not None:
                self.assertEqual([get_along(elder, given), get_along(newer, given)], [True, False])
                self.assertIs(is_sticking_desk(elder, newer, given), True)
            for other in SMALL[::29]:
                right = get_along(elder, other) and not get_along(newer, other)
                self.assertIs(is_sticking_desk(elder, newer, other), right)

    def test_wrong_desks(self):
        for value in not_desks():
            self.assertIs(is_sticking_desk(STOPS, loop(), value), False)


class BothOrders(unittest.TestCase):
    def test_both_orders(self):
        names = {(True, True): "both", (True, False): "safe", (False, True): "stands", (False, False): "neither"}
        found = []
        for rng in seeds(600):
            elder, newer = two_desks(rng) if rng.random() < 0.7 else two_alike(rng)
            plainly = names[(PlainSafe(elder, newer).safe, PlainHeld(elder, newer).raised() is not None)]
            found.append(plainly)
            self.assertEqual(both_orders(elder, newer), plainly)
        self.assertGreater(min([found.count(name) for name in names.values()]), 3)

    def test_none_is_within_the_other(self):
        deaf = changed(turned(loop()), ("drop", "s", "more"))
        self.assertEqual([both_orders(loop(), MORES), both_orders(MORES, deaf), both_orders(MORES, loop())],
                         ["safe", "stands", "stands"])
