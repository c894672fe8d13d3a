"""[43] to [49]: whether a desk stands for another one, held against answers that are found plainly."""

import unittest

from endswell.desks import Desk, begun, changed, trimmed
from endswell.facing import bad_talk, end_well
from endswell.stands import common_pairs, is_levels_table, is_losing_talk, is_lost_set, is_missing_talk, is_spoiler
from endswell.stands import least_levels, levels_table, losing_talk, lost_set, missing_talk, spoiler, stands
from endswell.stands import stands_within
from endswell.viable import has_partner
from tests.helpers import Plain, all_rows, frozen, junk, loop, not_desks, not_talks, seeds, ways
from tests.plain import DONE, SMALL, PlainHeld, bent, dicts_over, lively, near, positional_partners, two_desks

NEVER = Desk({"s": ("says", {"more": "s"}), "t": DONE}, "s")
QUIET = Desk({"s": ("says", {"stop": "t"}), "t": DONE}, "s")


def asker():
    book = {"s": ("hears", {"left": "l", "right": "r"}), "l": ("says", {"on": "s", "end": "t"}), "t": DONE}
    return Desk({**book, "r": ("says", {"on": "s", "end": "t"})}, "s")


def late():
    return changed(asker(), ("drop", "l", "end"))


def held_desks(many):
    """Plenty of two desks, with what is plainly told of them."""
    for rng in seeds(many):
        elder, newer = two_desks(rng)
        yield rng, elder, newer, PlainHeld(elder, newer)


class Stands(unittest.TestCase):
    def test_exactly_if_there_is_a_table(self):
        told = [0, 0]
        for _, elder, newer, plain in held_desks(400):
            right = plain.raised() is not None
            told[right] += plain.viable
            self.assertIs(stands(elder, newer), right)
        self.assertGreater(min(told), 80)

    def test_then_every_partner_is_one_of_the_newer_desk(self):
        harmed = 0
        for _, elder, newer, _ in held_desks(120):
            partners = [other for other in SMALL if end_well(elder, other)] + positional_partners(elder)
            wrong = [partner for partner in partners if not end_well(newer, partner)]
            harmed += len(wrong) > 0
            if stands(elder, newer):
                self.assertEqual(wrong, [])
            else:
                partner, _ = spoiler(elder, newer)
                self.assertEqual((Plain(elder, partner).well, Plain(newer, partner).well), (True, False))
        self.assertGreater(harmed, 20)

    def test_by_hand(self):
        self.assertEqual([stands(loop(), QUIET), stands(QUIET, loop()), stands(loop(), NEVER)], [True, False, False])
        self.assertEqual([stands(asker(), late()), stands(late(), asker())], [False, False])
        self.assertEqual([stands(loop(), loop()), stands(ways(), loop()), stands(ways(), ways())], [True, False, True])
        done, other = begun(loop(), "t"), Desk({"z": DONE}, "z")
        self.assertEqual([stands(done, other), stands(other, done), stands(done, loop()), stands(loop(), done)],
                         [True, True, False, False])

    def test_what_the_newer_one_hears_besides_does_no_harm(self):
        less = Desk({"h": ("hears", {"x": "t"}), "t": DONE}, "h")
        more = Desk({"h": ("hears", {"x": "t", "y": "n"}), "n": ("says", {"x": "n"}), "t": DONE}, "h")
        self.assertEqual([stands(less, more), stands(more, less)], [True, True])
        most = Desk({"h": ("hears", {"x": "t", "y": "t"}), "t": DONE}, "h")
        self.assertEqual([stands(less, most), stands(most, less)], [True, False])

    def test_any_desk_stands_for_one_that_is_not_viable(self):
        for other in SMALL + [loop(), asker()]:
            self.assertIs(stands(NEVER, other), True)
            self.assertIs(stands_within(NEVER, other, ["x"]), True)
            self.assertIs(stands(other, NEVER), not has_partner(other))

    def test_if_two_end_well_those_that_stand_for_them_do(self):
        many = 0
        for rng in seeds(150):
            one, newer = two_desks(rng)
            for other in positional_partners(one)[:6]:
                again = near(rng, other)
                if stands(one, newer) and stands(other, again):
                    many += 1
                    self.assertIs(end_well(newer, again), True)
        self.assertGreater(many, 20)

    def test_within(self):
        """No partner that says one of the words is asked."""
        unlike = 0
        for _, elder, newer, plain in held_desks(150):
            partners = [trimmed(one) for one in SMALL + positional_partners(elder) if end_well(elder, one)]
            for words in ([], ["x"], ["y"], ["x", "y"], ["x", "z"]):
                right = PlainHeld(elder, newer, words).raised() is not None
                unlike += right != stands(elder, newer)
                self.assertIs(stands_within(elder, newer, words), right)
                shy = [one for one in partners if not [1 for kind, turns in one.book().values()
                                                       if kind == "says" and set(turns) & set(words)]]
                wrong = [one for one in shy if not end_well(newer, one)]
                self.assertTrue(not right or not wrong)
        self.assertGreater(unlike, 20)

    def test_within_by_hand(self):
        told = [([], False), (["left"], True), (["right"], False), (["left", "right"], True), (["end", "on"], False)]
        for words, right in told:
            self.assertIs(stands_within(asker(), late(), words), right)
        # one word more that is not heard can leave a state without a way on, far ahead of it
        book = {"a": ("hears", {"u": "b", "v": "c"}), "b": ("hears", {"w": "t"}), "c": ("says", {"x": "t"}), "t": DONE}
        elder = Desk(book, "a")
        newer = Desk({**book, "b": ("says", {"x": "t"})}, "a")
        self.assertEqual([stands_within(elder, newer, words) for words in ([], ["v"], ["w"], ["u"], ["v", "w"])],
                         [False, False, True, True, True])


class CommonPairs(unittest.TestCase):
    def test_common_pairs(self):
        kinds = set()
        for _, elder, newer, plain in held_desks(300):
            kinds.add((plain.viable, all(plain.matched(pair) for pair in plain.pairs)))
            self.assertEqual(common_pairs(elder, newer), sorted(plain.pairs))
        self.assertEqual(len(kinds), 4)

    def test_missing_talks(self):
        told = [0, 0]
        for _, elder, newer, plain in held_desks(300):
            unmatched = [talk for talk in all_rows("xy", 4) if plain.viable and plain.behind(talk) is not None
                         and not plain.matched(plain.behind(talk))]
            right = [talk for talk in unmatched if len(talk) == len(unmatched[0])]
            given = missing_talk(elder, newer)
            told[given is None] += 1
            self.assertTrue(given in right if right else given is None)
            for value in all_rows("xy", 4):
                self.assertIs(is_missing_talk(elder, newer, value), value in right)
        self.assertGreater(min(told), 50)

    def test_some_partner_is_stuck_behind_a_missing_talk(self):
        for _, elder, newer, plain in held_desks(150):
            talk = missing_talk(elder, newer)
            if talk is not None:
                self.assertIs(stands(elder, newer), False)
                stuck = [one for one in positional_partners(elder) if Plain(newer, one).behind(talk)
                         and Plain(newer, one).kind[Plain(newer, one).behind(talk)] == "stuck"]
                self.assertTrue(stuck)

    def test_by_hand(self):
        self.assertEqual([common_pairs(QUIET, loop()), common_pairs(loop(), QUIET)],
                         [[("s", "s")], [("s", "s"), ("t", "t")]])
        self.assertEqual([missing_talk(NEVER, QUIET), common_pairs(NEVER, QUIET)], [None, [("s", "s")]])
        self.assertIs(is_missing_talk(NEVER, QUIET, []), False)
        self.assertEqual(common_pairs(NEVER, NEVER), [("s", "s")])
        # nothing is sayable at a hearing state that is not viable, so it asks for nothing
        mute = Desk({"h": ("hears", {"x": "h"})}, "h")
        self.assertEqual(common_pairs(mute, mute), [("h", "h")])
        self.assertEqual(missing_talk(asker(), Desk({"s": ("hears", {"left": "s"})}, "s")), [])


class Levels(unittest.TestCase):
    def test_the_least_table(self):
        greatest = set()
        for _, elder, newer, plain in held_desks(400):
            least = plain.raised()
            given = least_levels(elder, newer)
            self.assertEqual(frozen(given), frozen(least and {pair: least[pair] for pair in sorted(least)}))
            if given:
                greatest.add(max(given.values()))
                self.assertEqual(sorted(set(given.values())), list(range(max(given.values()) + 1)))
                self.assertEqual(list(given), common_pairs(elder, newer))
            table = levels_table(elder, newer)
            self.assertEqual(table is None, least is None)
            if table is not None:
                self.assertTrue(plain.is_table(table))
                self.assertIs(is_levels_table(elder, newer, table), True)
                self.assertIs(is_levels_table(elder, newer, given), True)
        self.assertLessEqual({0, 1, 2}, greatest)

    def test_it_is_the_least_of_all_of_them(self):
        for _, elder, newer, plain in held_desks(120):
            if plain.viable and len(plain.pairs) <= 4:
                tables = [one for one in dicts_over(plain.pairs, 4) if len(one) == len(plain.pairs)
                          and plain.is_table(one)]
                least = {pair: min(one[pair] for one in tables) for pair in plain.pairs} if tables else None
                self.assertEqual(least_levels(elder, newer), least)

    def test_all_small_tables(self):
        right = 0
        for _, elder, newer, plain in held_desks(250):
            for levels in dicts_over(plain.all_pairs, 2) if len(plain.all_pairs) <= 6 else []:
                told = plain.is_table(levels)
                right += told
                self.assertIs(is_levels_table(elder, newer, levels), told)
        self.assertGreater(right, 100)

    def test_tables_bent_in_one_place(self):
        right = 0
        for rng, elder, newer, plain in held_desks(150):
            for levels in bent(rng, plain.raised() or {}, plain.all_pairs):
                told = plain.is_table(levels)
                right += told
                self.assertIs(is_levels_table(elder, newer, levels), told)
        self.assertGreater(right, 300)

    def test_levels_by_hand(self):
        part = changed(ways(), ("drop", "a", "out"))
        ring = Desk({"a": ("says", {"go": "b"}), "b": ("says", {"back": "a"})}, "a")
        self.assertEqual(least_levels(ways(), part), {("a", "a"): 2, ("b", "b"): 1, ("t", "t"): 0})
        self.assertEqual([least_levels(ways(), ways()), least_levels(ways(), ring)],
                         [{("a", "a"): 0, ("b", "b"): 0, ("t", "t"): 0}, None])
        self.assertEqual([least_levels(NEVER, loop()), levels_table(NEVER, loop()), levels_table(ways(), ring)],
                         [{}, {}, None])
        for levels, told in (((2, 1, 0), True), ((1, 1, 0), False), ((2, 1, 1), False), ((40, 7, 3), True),
                             ((3, 2, 2), False)):
            self.assertIs(is_levels_table(ways(), part, dict(zip([("a", "a"), ("b", "b"), ("t", "t")], levels))), told)

    def test_a_hearing_pair_may_not_lie_below_one_behind_it(self):
        """Though another one behind it lies lower; of one that says one that lies lower is enough."""
        book = {"h": ("hears", {"x": "a", "y": "t"}), "a": ("says", {"x": "a", "y": "t"}), "t": DONE}
        elder, newer = Desk(book, "h"), Desk({**book, "a": ("says", {"y": "t"})}, "h")
        for levels, told in (((1, 1, 0), True), ((2, 1, 0), True), ((1, 2, 0), False), ((0, 1, 0), False)):
            self.assertIs(is_levels_table(elder, newer, dict(zip(zip("hat", "hat"), levels))), told)
        says = [Desk({**desk.book(), "h": ("says", book["h"][1])}, "h") for desk in (elder, newer)]
        for levels, told in (((1, 1, 0), True), ((1, 2, 0), True), ((0, 1, 0), False)):
            self.assertIs(is_levels_table(*says, dict(zip(zip("hat", "hat"), levels))), told)

    def test_other_pairs_may_be_in_a_table(self):
        good = {("s", "s"): 1, ("t", "t"): 0}
        self.assertIs(is_levels_table(loop(), QUIET, good), True)
        self.assertIs(is_levels_table(loop(), QUIET, {**good, ("s", "t"): 1}), False)
        wide = Desk({**QUIET.book(), "u": ("says", {"more": "u"}), "v": ("says", {"more": "s"})}, "s")
        self.assertIs(is_levels_table(loop(), wide, good), True)
        self.assertIs(is_levels_table(loop(), wide, {**good, ("s", "u"): 5}), False)
        self.assertIs(is_levels_table(loop(), wide, {**good, ("s", "v"): 1}), False)
        self.assertIs(is_levels_table(loop(), wide, {**good, ("s", "v"): 2}), True)
        self.assertIs(is_levels_table(loop(), wide, {("s", "v"): 2, ("t", "t"): 0}), False)

    def test_what_is_no_table(self):
        good = {("s", "s"): 1, ("t", "t"): 0}
        wrong = [("s", "s", True), ("s", "s", -1), ("t", "t", False), ("t", "t", "0"), ("t", "t", None),
                 ("s", "s", [1])]
        for one, other, count in wrong:
            self.assertIs(is_levels_table(loop(), QUIET, {**good, (one, other): count}), False)
        for key in (None, "ss", ("s",), ("s", "s", "s"), ("s", "zz"), ("zz", "s"), (("s", "s"),), 1, ("s", 1)):
            self.assertIs(is_levels_table(loop(), QUIET, {**good, key: 1}), False, key)
            self.assertIs(is_levels_table(NEVER, QUIET, {key: 1}), False, key)
        for thing in junk() + [[("s", "s")], [(("s", "s"), 1), (("t", "t"), 0)], (good,), [good], loop(), "ss"]:
            self.assertIs(is_levels_table(loop(), QUIET, thing), False, thing)
            self.assertIs(is_levels_table(NEVER, QUIET, thing), isinstance(thing, dict) and not thing, thing)
        self.assertIs(is_levels_table(NEVER, QUIET, {("t", "t"): 0}), False)


class LostSets(unittest.TestCase):
    def test_exactly_if_it_does_not_stand(self):
        for _, elder, newer, plain in held_desks(300):
            given = lost_set(elder, newer)
            self.assertEqual(given is None, stands(elder, newer))
            if given is not None:
                self.assertTrue(plain.is_lost(given))
                self.assertIs(is_lost_set(elder, newer, given), True)

    def test_all_small_lost_sets(self):
        right = 0
        for _, elder, newer, plain in held_desks(150):
            for ranks in dicts_over(plain.all_pairs, 2) if len(plain.all_pairs) <= 6 else []:
                told = plain.is_lost(ranks)
                right += told
                self.assertIs(is_lost_set(elder, newer, ranks), told)
        self.assertGreater(right, 100)

    def test_lost_sets_bent_in_one_place(self):
        right = 0
        for rng, elder, newer, plain in held_desks(200):
            for ranks in bent(rng, lost_set(elder, newer) or {}, plain.all_pairs):
                told = plain.is_lost(ranks)
                right += told
                self.assertIs(is_lost_set(elder, newer, ranks), told)
        self.assertGreater(right, 300)

    def test_by_hand(self):
        for ranks, told in (({("s", "s"): 0}, True), ({("s", "s"): 10 ** 29}, True), ({}, False),
                            ({("t", "t"): 0}, False),
                            ({("s", "s"): 0, ("t", "t"): 0}, False), ({("s", "s"): 0, ("s", "t"): 0}, True),
                            ({("s", "s"): 0, ("t", "s"): 7}, True), ({("s", "t"): 0}, False)):
            self.assertIs(is_lost_set(loop(), NEVER, ranks), told, ranks)
        self.assertIs(is_lost_set(loop(), QUIET, {("s", "s"): 0}), False)
        self.assertIs(is_lost_set(NEVER, QUIET, {("s", "s"): 0}), False)
        self.assertIsNone(lost_set(NEVER, QUIET))
        for ranks, told in (((0, 1), True), ((0, 0), False), ((1, 1), False), ((1, 0), False), ((3, 4), True)):
            self.assertIs(is_lost_set(asker(), late(), dict(zip([("l", "l"), ("s", "s")], ranks))), told)
        self.assertIs(is_lost_set(asker(), late(), {("l", "l"): 0}), False)

    def test_what_is_none(self):
        good = {("s", "s"): 0}
        for count in (True, False, -1, "0", None, [0], (0,)):
            self.assertIs(is_lost_set(loop(), NEVER, {("s", "s"): count}), False)
        for key in (None, "ss", ("s",), ("s", "s", "s"), ("s", "zz"), ("zz", "s"), (("s", "s"),), 1, ("s", 1)):
            self.assertIs(is_lost_set(loop(), NEVER, {**good, key: 1}), False, key)
        for thing in junk() + [[("s", "s")], [(("s", "s"), 0)], (good,), [good], loop(), "ss"]:
            self.assertIs(is_lost_set(loop(), NEVER, thing), False, thing)
            self.assertIs(is_lost_set(NEVER, loop(), thing), False, thing)

    def test_losing_talks(self):
        """The shortest talks to a pair that is in some lost set; all lost sets are tried."""
        told = [0, 0]
        for _, elder, newer, plain in held_desks(250):
            if len(plain.pairs) > 4:
                continue
            lost = {pair for ranks in dicts_over(plain.pairs, 3) if plain.is_lost(ranks) for pair in ranks}
            losing = [talk for talk in all_rows("xy", 4) if plain.behind(talk) in lost]
            right = [talk for talk in losing if len(talk) == len(losing[0])]
            given = losing_talk(elder, newer)
            told[given is None] += 1
            self.assertTrue(given in right if right else given is None)
            for value in all_rows("xy", 4):
                self.assertIs(is_losing_talk(elder, newer, value), value in right)
        self.assertGreater(min(told), 50)

    def test_no_spoiler_has_a_shorter_talk(self):
        longer = 0
        for _, elder, newer, plain in held_desks(300):
            talk = losing_talk(elder, newer)
            if talk is None:
                continue
            longer += len(talk) > 0
            partner, _ = spoiler(elder, newer)
            self.assertTrue([one for one in [partner] + positional_partners(elder)
                             if is_spoiler(elder, newer, (one, talk))])
            for one in SMALL + positional_partners(elder):
                if end_well(elder, one) and not end_well(newer, one):
                    self.assertGreaterEqual(len(bad_talk(newer, one)[0]), len(talk))
        self.assertGreater(longer, 5)

    def test_a_losing_talk_that_is_not_missing(self):
        first = Desk({"a": ("says", {"x": "t"}), "t": DONE}, "a")
        last = Desk({"a": ("says", {"x": "u"}), "u": ("says", {"y": "u"})}, "a")
        self.assertEqual([missing_talk(first, last), losing_talk(first, last)], [["x"], []])
        self.assertEqual([losing_talk(asker(), late()), missing_talk(asker(), late())], [[], None])
        deep = Desk({"a": ("says", {"u": "b", "v": "t"}), "b": ("says", {"v": "t", "w": "b"}), "t": DONE}, "a")
        self.assertEqual(losing_talk(deep, changed(deep, ("drop", "b", "v"))), ["u"])


class Spoilers(unittest.TestCase):
    def is_plainly(self, elder, newer, partner, talk):
        plain = Plain(newer, partner)
        pair = plain.behind(talk)
        return Plain(elder, partner).well and pair is not None and plain.least_out(pair) is None

    def test_what_is_returned(self):
        many = 0
        for _, elder, newer, _ in held_desks(300):
            given = spoiler(elder, newer)
            self.assertEqual(given is None, stands(elder, newer))
            if given is not None:
                many += 1
                self.assertIsInstance(given, tuple)
                self.assertTrue(self.is_plainly(elder, newer, *given))
                self.assertIs(is_spoiler(elder, newer, given), True)
        self.assertGreater(many, 80)

    def test_what_is_a_spoiler(self):
        right = 0
        for rng, elder, newer, _ in held_desks(100):
            partners = [one for one in SMALL if end_well(elder, one)] + positional_partners(elder) + rng.sample(SMALL,
                                                                                                                10)
            for partner in partners[:30]:
                for talk in all_rows("xy", 3):
                    told = self.is_plainly(elder, newer, partner, talk)
                    right += told
                    self.assertIs(is_spoiler(elder, newer, (partner, talk)), told)
        self.assertGreater(right, 100)

    def test_bent_in_one_place(self):
        friend = Desk({"h": ("hears", {"more": "h", "stop": "t"}), "t": DONE}, "h")
        for talk, told in (([], True), (["more"] * 40, True), (["stop"], False), (["more", "never"], False)):
            self.assertIs(is_spoiler(loop(), NEVER, (friend, talk)), told)
        for partner in (begun(friend, "t"), loop(), Desk({"h": ("hears", {"more": "h"})}, "h")):
            self.assertIs(is_spoiler(loop(), NEVER, (partner, [])), False)
        wrong = [[friend, []], (friend,), (friend, [], []), ([], friend), (friend, ()), (friend, "more"),
                 (friend, None),
                 (None, []), (friend, ["more", 1]), {"partner": friend, "talk": []}, (friend, [["more"]]), friend,
                 (friend, {})]
        for thing in junk() + not_desks() + wrong + [(thing, []) for thing in not_desks()]:
            self.assertIs(is_spoiler(loop(), NEVER, thing), False, thing)
        for thing in not_talks():
            self.assertIs(is_spoiler(loop(), NEVER, (friend, thing)), False, thing)

    def test_a_pair_that_is_stuck(self):
        friend = Desk({"h": ("hears", {"stop": "t"}), "t": DONE}, "h")
        self.assertIs(is_spoiler(QUIET, loop(), (friend, [])), True)
        self.assertIs(is_spoiler(QUIET, loop(), (friend, ["stop"])), False)
        self.assertEqual(spoiler(QUIET, loop())[1], [])
        self.assertIsNone(spoiler(NEVER, loop()))

    def test_any_object_is_judged(self):
        for thing in not_talks() + [None, ("more",)]:
            for elder, newer in ((loop(), NEVER), (QUIET, loop()), (loop(), QUIET), (NEVER, loop())):
                self.assertIs(is_missing_talk(elder, newer, thing), False)
                self.assertIs(is_losing_talk(elder, newer, thing), False)

    def test_great_levels_and_long_rows(self):
        for rng in seeds(30):
            elder = lively(rng, "abcde", "xyz", 3)
            newer = near(rng, near(rng, elder))
            plain = PlainHeld(elder, newer)
            self.assertEqual(least_levels(elder, newer), plain.raised())
            given = lost_set(elder, newer)
            self.assertTrue(given is None if plain.raised() is not None else plain.is_lost(given))
