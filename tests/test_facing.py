"""[23] to [29]: two desks facing, held against answers that are found plainly."""

import itertools
import unittest

from endswell.desks import Desk, begun, turned
from endswell.errors import InvalidCount, InvalidDesk, InvalidPair, InvalidTalk
from endswell.facing import are_ways_out, bad_talk, end_well, ended_place, ended_talk, ended_talks, farthest
from endswell.facing import farthest_pairs, first_stuck, is_bad_talk, is_first_stuck, is_talk_to, is_way_out
from endswell.facing import never_stuck, next_pairs, pair_behind, pair_kind, pairs_come, talk_to, way_out, ways_out
from tests.helpers import Plain, all_ear, all_rows, deaf, frozen, junk, loop, not_counts, not_desks, not_pairs
from tests.helpers import not_talks, random_two, seeds, ways

DONE = ("done", {})
WORDS = ["no", "x", "yes"]
TWO_ARGUMENTS = [pairs_come, end_well, ways_out, farthest, farthest_pairs, bad_talk, first_stuck, never_stuck]


def twos(many):
    """Plenty of two desks facing, with what is plainly told of them."""
    for rng in seeds(many):
        one, other = random_two(rng)
        yield rng, one, other, Plain(one, other)


class Pairs(unittest.TestCase):
    def test_kinds_and_next_pairs(self):
        for _, one, other, plain in twos(150):
            for pair in plain.pairs:
                self.assertEqual(pair_kind(one, other, pair), plain.kind[pair])
                self.assertEqual(frozen(next_pairs(one, other, pair)), frozen(plain.nexts[pair]))

    def test_all_kinds_face_all_kinds(self):
        rows = {"a": ("says", {"x": "c"}), "b": ("hears", {"x": "c"}), "c": DONE}
        one = Desk(rows, "a")
        kinds = {"ab": "goes on", "ba": "goes on", "cc": "ended"}
        for first, second in itertools.product("abc", repeat=2):
            told = kinds.get(first + second, "stuck")
            self.assertEqual(pair_kind(one, one, (first, second)), told)
            nexts = {"x": ("c", "c")} if told == "goes on" else {}
            self.assertEqual(next_pairs(one, one, (first, second)), nexts)

    def test_all_words_that_are_said_are_heard(self):
        sayer = Desk({"s": ("says", {"y": "s", "x": "t"}), "t": DONE}, "s")
        both = Desk({"h": ("hears", {"z": "h", "y": "h", "x": "d"}), "d": DONE}, "h")
        half = Desk({"h": ("hears", {"y": "h", "z": "h"}), "d": DONE}, "h")
        self.assertEqual(list(next_pairs(sayer, both, ("s", "h")).items()), [("x", ("t", "d")), ("y", ("s", "h"))])
        self.assertEqual(list(next_pairs(both, sayer, ("h", "s")).items()), [("x", ("d", "t")), ("y", ("h", "s"))])
        for hearer, kind in ((both, "goes on"), (half, "stuck")):
            self.assertEqual(pair_kind(sayer, hearer, ("s", "h")), kind)
            self.assertEqual(pair_kind(hearer, sayer, ("h", "s")), kind)
        self.assertEqual([next_pairs(sayer, half, ("s", "h")), next_pairs(half, sayer, ("h", "s"))], [{}, {}])

    def test_pairs_that_can_come(self):
        for _, one, other, plain in twos(150):
            self.assertEqual(pairs_come(one, other), plain.come)

    def test_wrong_pairs(self):
        for thing in not_pairs():
            for function in (pair_kind, next_pairs, talk_to, way_out):
                with self.assertRaises(InvalidPair) as caught:
                    function(loop(), deaf(), thing)
                self.assertIs(caught.exception.value, thing)
            for function in (is_talk_to, is_way_out):
                for value in ([], None):
                    with self.assertRaises(InvalidPair) as caught:
                        function(loop(), deaf(), thing, value)
                    self.assertIs(caught.exception.value, thing)

    def test_pairs_of_other_states_of_the_same_desks(self):
        self.assertEqual(pair_kind(loop(), deaf(), ("t", "q")), "ended")
        self.assertEqual(pair_kind(loop(), deaf(), ("t", "p")), "stuck")


class TalksTo(unittest.TestCase):
    def test_talks_to_pairs(self):
        for _, one, other, plain in twos(80):
            rows = all_rows(WORDS, 3)
            for pair in plain.pairs:
                least = plain.least([pair], plain.first)
                talk = talk_to(one, other, pair)
                self.assertEqual(least is None, talk is None)
                if talk is not None:
                    self.assertEqual((plain.behind(talk), len(talk)), (pair, least))
                    self.assertIs(is_talk_to(one, other, pair, talk), True)
                for value in rows:
                    right = len(value) == least and plain.behind(value) == pair
                    self.assertIs(is_talk_to(one, other, pair, value), right)

    def test_pairs_behind(self):
        for _, one, other, plain in twos(80):
            for talk in all_rows(WORDS, 3):
                self.assertEqual(pair_behind(one, other, talk), plain.behind(talk))

    def test_no_pair_behind(self):
        self.assertEqual(pair_behind(loop(), deaf(), []), ("s", "p"))
        self.assertIsNone(pair_behind(loop(), deaf(), ["more"]))
        self.assertIsNone(pair_behind(loop(), all_ear(), ["never"]))
        self.assertIsNone(pair_behind(loop(), all_ear(), ["back"]))
        self.assertIsNone(pair_behind(loop(), all_ear(), ["stop", "more"]))

    def test_wrong_talks(self):
        for thing in not_talks():
            for function in (pair_behind, ended_place):
                with self.assertRaises(InvalidTalk) as caught:
                    function(loop(), all_ear(), thing)
                self.assertIs(caught.exception.value, thing)


class EndingWell(unittest.TestCase):
    def test_ending_well(self):
        well = 0
        for _, one, other, plain in twos(400):
            well += plain.well
            self.assertIs(end_well(one, other), plain.well)
            given = ways_out(one, other)
            self.assertEqual(given is not None, plain.well)
            if plain.well:
                self.assertEqual(list(given), plain.come)
                self.assertTrue(plainly_ways_out(plain, given))
                self.assertIs(are_ways_out(one, other, given), True)
        self.assertTrue(40 < well < 360)

    def test_an_end_that_need_not_come_is_enough(self):
        self.assertIs(end_well(loop(), all_ear()), True)
        only = Desk({"s": ("says", {"more": "s"})}, "s")
        self.assertIs(end_well(only, all_ear()), False)
        leads = Desk({"s": ("says", {"more": "u", "stop": "t"}), "t": DONE, "u": ("says", {"more": "u"})}, "s")
        self.assertIs(end_well(leads, all_ear()), False)

    def test_what_cannot_come_does_no_harm(self):
        sayer = Desk({"s": ("says", {"x": "t"}), "t": DONE, "u": ("says", {"x": "u"})}, "s")
        hearer = Desk({"h": ("hears", {"x": "d", "y": "h"}), "d": DONE, "e": ("says", {"z": "e"})}, "h")
        self.assertIs(end_well(sayer, hearer), True)
        self.assertIs(end_well(hearer, sayer), True)
        self.assertIs(never_stuck(sayer, hearer), True)
        self.assertIs(end_well(sayer, begun(hearer, "d")), False)
        self.assertIs(end_well(begun(sayer, "t"), begun(hearer, "d")), True)

    def test_counts_that_are_ways_out(self):
        right = 0
        for rng, one, other, plain in twos(300):
            for counts in guessed_counts(rng, plain):
                told = plainly_ways_out(plain, counts)
                right += told
                self.assertIs(are_ways_out(one, other, counts), told, counts)
        self.assertGreater(right, 100)

    def test_what_are_no_ways_out(self):
        good = {("s", "p"): 1, ("t", "q"): 0}
        for counts in (good, {("t", "q"): 0, ("s", "p"): 10 ** 29}):
            self.assertIs(are_ways_out(loop(), all_ear(), counts), True)
        wrong = [
            {("s", "p"): 1}, {("t", "q"): 0}, {("s", "p"): 0, ("t", "q"): 0}, {("s", "p"): 2, ("t", "q"): 1},
            {("s", "p"): 1, ("t", "q"): False}, {("s", "p"): True, ("t", "q"): 0}, {("s", "p"): 1, ("t", "q"): -1},
            {("s", "p"): -1, ("t", "q"): 0}, {("s", "p"): "1", ("t", "q"): 0}, {("s", "p"): [1], ("t", "q"): 0},
            {("s", "p"): 1, ("t", "q"): None}, {**good, ("s", "q"): 1}, {**good, ("t", "p"): 2}, {**good, None: 0},
            {**good, "sp": 1}, {**good, ("s", "p", "p"): 1}, {"s": 1, "t": 0}, {("p", "s"): 1, ("q", "t"): 0},
            [("s", "p"), ("t", "q")], [(("s", "p"), 1), (("t", "q"), 0)], ((("s", "p"), 1), (("t", "q"), 0)), 1, loop(),
        ]
        for thing in junk() + wrong:
            self.assertIs(are_ways_out(loop(), all_ear(), thing), False, thing)
            self.assertIs(are_ways_out(loop(), deaf(), thing), False, thing)
        for thing in [good, {("s", "p"): 0}, {("s", "p"): 1}, {}]:
            self.assertIs(are_ways_out(loop(), deaf(), thing), False, thing)
        self.assertIs(are_ways_out(begun(loop(), "t"), begun(all_ear(), "q"), {("t", "q"): 0}), True)
        self.assertIs(are_ways_out(begun(loop(), "t"), begun(all_ear(), "q"), {}), False)

    def test_ways_out(self):
        for _, one, other, plain in twos(80):
            rows = all_rows(WORDS, 3)
            ended = plain.of_kind("ended")
            for pair in plain.pairs:
                least = plain.least_out(pair)
                talk = way_out(one, other, pair)
                self.assertEqual(least is None, talk is None)
                if talk is not None:
                    self.assertEqual(len(talk), least)
                    self.assertIn(plain.behind(talk, pair), ended)
                    self.assertIs(is_way_out(one, other, pair, talk), True)
                for value in rows:
                    right = len(value) == least and plain.behind(value, pair) in ended
                    self.assertIs(is_way_out(one, other, pair, value), right)

    def test_a_way_out_of_a_pair_that_cannot_come(self):
        early = begun(loop(), "t")
        self.assertNotIn(("s", "p"), pairs_come(early, all_ear()))
        self.assertEqual(way_out(early, all_ear(), ("s", "p")), ["stop"])
        self.assertIs(is_way_out(early, all_ear(), ("s", "p"), ["stop"]), True)
        self.assertIsNone(way_out(early, all_ear(), ("t", "p")))
        self.assertEqual(way_out(early, all_ear(), ("t", "q")), [])

    def test_the_farthest_pairs(self):
        for _, one, other, plain in twos(300):
            if not plain.well:
                self.assertIsNone(farthest(one, other))
                self.assertEqual(farthest_pairs(one, other), [])
                continue
            far = {pair: plain.least_out(pair) for pair in plain.come}
            most = max(far.values())
            self.assertEqual(farthest(one, other), most)
            self.assertEqual(farthest_pairs(one, other), [pair for pair in plain.come if far[pair] == most])


def plainly_ways_out(plain, counts):
    """What [25] says of a dictionary from pairs to counts."""
    if not set(counts) <= set(plain.come) or plain.first not in counts:
        return False
    for pair, count in counts.items():
        kind, nexts = plain.kind[pair], plain.nexts[pair].values()
        if kind == "stuck" or not set(nexts) <= set(counts) or (count == 0) != (kind == "ended"):
            return False
        if kind == "goes on" and not any(counts[later] < count for later in nexts):
            return False
    return True


def guessed_counts(rng, plain):
    """Counts of the pairs that can come, some right and some nearly so."""
    for _ in range(12):
        yield {pair: rng.randint(0, 3) for pair in plain.come}
    least = {pair: plain.least_out(pair) or 0 for pair in plain.come}
    yield least
    for pair in plain.pairs:
        for count in range(4):
            yield {**least, pair: count}
        yield {other: least[other] for other in least if other != pair}
    yield {pair: 7 * count for pair, count in least.items()}
    yield {pair: count + 1 for pair, count in least.items()}


class BadTalks(unittest.TestCase):
    def test_bad_talks(self):
        for _, one, other, plain in twos(300):
            given = bad_talk(one, other)
            self.assertEqual(given is None, plain.well)
            if given is None:
                continue
            self.assertIsInstance(given, tuple)
            talk, pairs = given
            lost = [pair for pair in plain.pairs if plain.least_out(pair) is None]
            self.assertEqual(len(talk), plain.least(lost, plain.first))
            self.assertTrue(plainly_bad(plain, talk, pairs))
            self.assertIs(is_bad_talk(one, other, given), True)

    def test_what_is_a_bad_talk(self):
        right = 0
        for rng in seeds(40):
            one, other = random_two(rng, 2)
            plain = Plain(one, other)
            lists = [list(some) for many in range(5) for some in itertools.combinations(sorted(plain.pairs), many)]
            for talk in all_rows(WORDS, 2):
                for pairs in lists:
                    told = plainly_bad(plain, talk, pairs)
                    right += told
                    self.assertIs(is_bad_talk(one, other, (talk, pairs)), told, (talk, pairs))
        self.assertGreater(right, 100)

    def test_pairs_that_cannot_come_may_be_in_it(self):
        only = Desk({"s": ("says", {"more": "s"}), "t": DONE}, "s")
        for pairs in ([("s", "p")], [("s", "p"), ("s", "q")], [("s", "p"), ("s", "q"), ("t", "p")]):
            self.assertIs(is_bad_talk(only, deaf(), (["more"] * 3, pairs)), True)
            self.assertIs(is_bad_talk(only, deaf(), (["more"] * 60, pairs)), True)
        self.assertIs(is_bad_talk(only, deaf(), ([], [("s", "p"), ("s", "q"), ("t", "p"), ("t", "q")])), False)
        self.assertIs(is_bad_talk(only, deaf(), ([], [("s", "q")])), False)

    def test_what_is_none(self):
        only = Desk({"s": ("says", {"more": "s"}), "t": DONE}, "s")
        good = [("s", "p"), ("s", "q")]
        self.assertIs(is_bad_talk(only, deaf(), ([], good)), True)
        wrong = [
            [[], good], ([], tuple(good)), ((), good), ([],), ([], good, good), (good, []), ([], good[::-1]), ([], []),
            ([], good + [("s", "q")]), ([], [("s", "p"), ("s", "p")]), ([], [["s", "p"]]), ([], [("s", "p"), None]),
            ([], [("s", "p"), ("s", "zz")]), ([], [("s", "p"), ("p", "s")]), ([], [("s", "p", "p")]), ([], ["sp"]),
            ([], {("s", "p"): 0}), ([], "sp"), ([], None), (None, good), ("", good), (["more", 1], good),
            ("more", good), (["stop"], good), (["never"], good), ([], [("s", "p"), ("s", 1)]), ([], [("s", ["p"])]),
            {"talk": [], "pairs": good}, ([], [None]), ([], [("s", "p"), True]), ([True], good), ([], ("s", "p")),
            loop(), ([], loop()), (loop(), good),
        ]
        for thing in junk() + wrong:
            self.assertIs(is_bad_talk(only, deaf(), thing), False, thing)

    def test_the_first_stuck_pair(self):
        stuck = 0
        for _, one, other, plain in twos(150):
            goals = plain.of_kind("stuck")
            least = plain.least(goals, plain.first)
            talk = first_stuck(one, other)
            self.assertEqual(talk is None, least is None)
            self.assertIs(never_stuck(one, other), least is None)
            if talk is not None:
                stuck += 1
                self.assertEqual((len(talk), plain.kind[plain.behind(talk)]), (least, "stuck"))
                self.assertIs(is_first_stuck(one, other, talk), True)
            for value in all_rows(WORDS, 3):
                right = len(value) == least and plain.behind(value) in goals
                self.assertIs(is_first_stuck(one, other, value), right)
        self.assertTrue(20 < stuck < 130)

    def test_stuck_later(self):
        sayer = Desk({"s": ("says", {"more": "s", "stop": "t"}), "t": DONE}, "s")
        hearer = Desk({"h": ("hears", {"more": "g", "stop": "d"}), "g": ("hears", {"more": "h"}), "d": DONE}, "h")
        self.assertEqual(first_stuck(sayer, hearer), ["more"])
        self.assertEqual(bad_talk(sayer, hearer)[0], ["more"])
        self.assertIs(is_first_stuck(sayer, hearer, ["stop"]), False)
        self.assertIs(is_first_stuck(sayer, hearer, []), False)
        self.assertIs(never_stuck(sayer, hearer), False)
        self.assertIs(never_stuck(sayer, turned(sayer)), True)
        self.assertIsNone(first_stuck(sayer, turned(sayer)))

    def test_any_object_is_judged(self):
        early = begun(loop(), "t")
        for one, other in ((loop(), deaf()), (loop(), all_ear()), (early, begun(all_ear(), "q"))):
            for thing in not_talks() + [None, ("stop",)]:
                self.assertIs(is_first_stuck(one, other, thing), False)
                for pair in Plain(one, other).pairs:
                    self.assertIs(is_talk_to(one, other, pair, thing), False)
                    self.assertIs(is_way_out(one, other, pair, thing), False)


def plainly_bad(plain, talk, pairs):
    """What [27] says of a talk and an ascending list of pairs."""
    if plain.behind(talk) not in pairs:
        return False
    return all(plain.kind[p] != "ended" and set(plain.nexts[p].values()) <= set(pairs) for p in pairs)


class EndedTalks(unittest.TestCase):
    def listed(self, plain, size):
        """The ascending list of the talks of so many words that lead to an ended pair."""
        found = [([], plain.first)]
        for _ in range(size):
            found = [(talk + [word], later) for talk, pair in found for word, later in plain.nexts[pair].items()]
        return sorted(talk for talk, pair in found if plain.kind[pair] == "ended")

    def test_counts_places_and_talks(self):
        for _, one, other, plain in twos(200):
            for size in range(5):
                listed = self.listed(plain, size)
                self.assertEqual(ended_talks(one, other, size), len(listed))
                self.assertEqual([ended_talk(one, other, size, at) for at in range(len(listed))], listed)
                for at, talk in enumerate(listed):
                    self.assertEqual(frozen(ended_place(one, other, talk)), frozen(at))
                for wrong in (len(listed), len(listed) + 1, 10 ** 29):
                    with self.assertRaises(InvalidCount) as caught:
                        ended_talk(one, other, size, wrong)
                    self.assertIs(caught.exception.value, wrong)
            for talk in all_rows(WORDS, 3):
                if talk not in self.listed(plain, len(talk)):
                    self.assertIsNone(ended_place(one, other, talk))

    def test_more_than_can_be_listed(self):
        turns = {"a": "s", "b": "s", "c": "s", "d": "s", "e": "t"}
        sayer = Desk({"s": ("says", turns), "t": DONE}, "s")
        hearer = Desk({"p": ("hears", {word: {"s": "p", "t": "q"}[turns[word]] for word in turns}), "q": DONE}, "p")
        many = 4 ** 39
        for one, other in ((sayer, hearer), (hearer, sayer)):
            self.assertEqual(ended_talks(one, other, 40), many)
            self.assertEqual(ended_talk(one, other, 40, many - 1), ["d"] * 39 + ["e"])
            for number in (0, 1, 1234567890123456789, many // 3):
                self.assertEqual(ended_place(one, other, ended_talk(one, other, 40, number)), number)
            with self.assertRaises(InvalidCount):
                ended_talk(one, other, 40, many)

    def test_nothing_goes_on_behind_the_end(self):
        first, second = begun(loop(), "t"), begun(all_ear(), "q")
        self.assertEqual([ended_talks(first, second, size) for size in range(3)], [1, 0, 0])
        self.assertEqual(ended_talk(first, second, 0, 0), [])
        self.assertEqual(ended_place(first, second, []), 0)
        self.assertIsNone(ended_place(loop(), all_ear(), ["stop", "stop"]))
        self.assertIsNone(ended_place(loop(), all_ear(), ["more"]))
        self.assertIsNone(ended_place(loop(), deaf(), ["stop"]))
        self.assertIsNone(ended_place(loop(), all_ear(), ["off"]))

    def test_wrong_counts(self):
        for thing in not_counts():
            with self.assertRaises(InvalidCount) as caught:
                ended_talks(ways(), all_ear(), thing)
            self.assertIs(caught.exception.value, thing)
            for number in (0, None, thing):
                with self.assertRaises(InvalidCount) as caught:
                    ended_talk(ways(), all_ear(), thing, number)
                self.assertIs(caught.exception.value, thing)
            with self.assertRaises(InvalidCount) as caught:
                ended_talk(ways(), all_ear(), 1, thing)
            self.assertIs(caught.exception.value, thing)


class WrongDesks(unittest.TestCase):
    def calls(self):
        """The functions, each with arguments behind the two desks: right ones, and wrong ones."""
        for function in TWO_ARGUMENTS:
            yield function, ()
        for function in (pair_kind, next_pairs, talk_to, way_out):
            yield from ((function, (("s", "p"),)), (function, (None,)))
        for function in (is_talk_to, is_way_out):
            yield from ((function, (("s", "p"), [])), (function, (None, None)))
        for function in (pair_behind, ended_place):
            yield from ((function, ([],)), (function, (None,)))
        for function in (are_ways_out, is_bad_talk, is_first_stuck):
            yield from ((function, ([],)), (function, (None,)))
        yield from ((ended_talks, (1,)), (ended_talks, (None,)), (ended_talk, (1, 0)), (ended_talk, (None, None)))

    def test_one_by_one(self):
        for function, others in self.calls():
            for thing in not_desks():
                for one, other in ((thing, all_ear()), (loop(), thing), (thing, None)):
                    with self.assertRaises(InvalidDesk) as caught:
                        function(one, other, *others)
                    self.assertIs(caught.exception.value, thing)
