"""[30] to [36]: who has a partner, held against answers that are found plainly."""

import itertools
import unittest

from endswell.desks import Desk, begun, states_of
from endswell.errors import Hopeless
from endswell.facing import end_well
from endswell.viable import common_partner, ending_talk, fewest_words, has_partner, have_common, is_common_partner
from endswell.viable import is_ending_talk, is_level_paper, is_rank_paper, level_paper, rank_paper, rescues
from endswell.viable import sayable_words, spoken_desk, viable_states
from tests.helpers import Plain, all_ear, all_rows, frozen, junk, loop, not_desks, not_talks, seeds, walked, ways
from tests.plain import DONE, SMALL, bent, closed, dicts_over, is_hopeful, is_level_paper_plainly
from tests.plain import is_rank_paper_plainly, lively, near, positional_commons, positional_partners, said_rows


def poor():
    book = {"s": ("hears", {"ok": "t", "no": "n"}), "n": ("says", {"sorry": "n"}), "t": DONE}
    return Desk(book, "s")


def dead():
    book = {"s": ("says", {"go": "n", "stop": "t"}), "n": ("says", {"sorry": "n"}), "t": DONE}
    return Desk(book, "s")


class Viable(unittest.TestCase):
    def test_viable_states(self):
        viable = 0
        for rng in seeds(150):
            desk = lively(rng)
            told = [state for state in states_of(desk) if is_hopeful(desk.book(), state)]
            viable += desk.start() in told
            self.assertEqual(viable_states(desk), told)
            self.assertIs(has_partner(desk), desk.start() in told)
        self.assertTrue(30 < viable < 120)

    def test_no_desk_is_a_partner_of_one_that_is_not_viable(self):
        hopeless = 0
        for rng in seeds(60):
            desk = lively(rng)
            if not has_partner(desk):
                hopeless += 1
                self.assertFalse([other for other in SMALL if end_well(desk, other)])
        self.assertGreater(hopeless, 10)

    def test_what_decides(self):
        only = {"s": ("says", {"more": "s"}), "t": DONE}
        self.assertEqual(viable_states(Desk(only, "s")), ["t"])
        self.assertEqual(viable_states(Desk({"s": ("hears", {"more": "s"})}, "s")), [])
        self.assertIs(has_partner(Desk({"t": DONE}, "t")), True)
        self.assertEqual([viable_states(poor()), viable_states(dead())], [["s", "t"], ["t"]])
        # who says may not be stopped from going on, but who says may also be let go on
        self.assertIs(has_partner(loop()), True)
        hears_loop = Desk({"s": ("hears", {"more": "s", "stop": "t"}), "t": DONE}, "s")
        self.assertIs(has_partner(hears_loop), True)
        far = Desk({"a": ("says", {"x": "b", "y": "c"}), "b": ("hears", {"x": "a"}), "c": ("says", {"x": "c"})}, "a")
        self.assertEqual(viable_states(far), [])

    def test_one_word_that_leads_astray_is_enough_for_who_says(self):
        row = {"a": ("says", {"x": "t", "y": "b"}), "b": ("hears", {"x": "c"}), "c": ("hears", {"x": "b"}), "t": DONE}
        self.assertEqual(viable_states(Desk(row, "a")), ["t"])
        self.assertEqual(viable_states(Desk({**row, "a": ("hears", row["a"][1])}, "a")), ["a", "t"])

    def test_what_is_not_viable_farther_on(self):
        book = {"a": ("says", {"x": "b", "y": "t"}), "b": ("says", {"x": "c", "y": "t"}), "c": ("hears", {"x": "c"})}
        self.assertEqual(viable_states(Desk({**book, "t": DONE}, "a")), ["t"])
        paper = level_paper(Desk({**book, "t": DONE}, "a"), "a")
        self.assertEqual(paper, {"a": 2, "b": 1, "c": 0})


class Papers(unittest.TestCase):
    def test_each_state_has_just_one_of_the_two(self):
        for rng in seeds(200):
            desk = lively(rng, "abcd")
            book = desk.book()
            for state in book:
                rank, level = rank_paper(desk, state), level_paper(desk, state)
                self.assertEqual([rank is None, level is None], [state not in viable_states(desk)] + [rank is not None])
                if rank is not None:
                    self.assertTrue(is_rank_paper_plainly(book, state, rank))
                    self.assertIs(is_rank_paper(desk, state, rank), True)
                else:
                    self.assertTrue(is_level_paper_plainly(book, state, level))
                    self.assertIs(is_level_paper(desk, state, level), True)

    def test_all_small_papers(self):
        right = [0, 0]
        for rng in seeds(30):
            desk = lively(rng)
            book = desk.book()
            for paper in dicts_over(list(book), 2):
                for state in book:
                    told = is_rank_paper_plainly(book, state, paper), is_level_paper_plainly(book, state, paper)
                    self.assertEqual((is_rank_paper(desk, state, paper), is_level_paper(desk, state, paper)), told)
                    right = [right[0] + told[0], right[1] + told[1]]
        self.assertGreater(min(right), 100)

    def test_papers_bent_in_one_place(self):
        for rng in seeds(80):
            desk = lively(rng, "abcd")
            book = desk.book()
            for state in book:
                for paper in bent(rng, rank_paper(desk, state) or level_paper(desk, state), list(book)):
                    told = is_rank_paper_plainly(book, state, paper), is_level_paper_plainly(book, state, paper)
                    self.assertEqual((is_rank_paper(desk, state, paper), is_level_paper(desk, state, paper)), told)

    def test_great_counts_and_states_that_cannot_be_come_to(self):
        self.assertIs(is_rank_paper(loop(), "s", {"s": 10 ** 29, "t": 40}), True)
        self.assertIs(is_rank_paper(begun(loop(), "t"), "s", {"s": 1, "t": 0}), True)
        self.assertIs(is_rank_paper(begun(loop(), "t"), "t", {"t": 5}), True)
        self.assertIs(is_rank_paper(loop(), "t", {"s": 6, "t": 5}), True)
        self.assertIs(is_rank_paper(loop(), "s", {"s": 6, "t": 6}), False)
        self.assertIs(is_rank_paper(loop(), "t", {"s": 6, "t": 6}), False)
        self.assertIs(is_level_paper(dead(), "s", {"n": 4, "s": 10 ** 29}), True)
        self.assertIs(is_level_paper(dead(), "s", {"n": 4, "s": 4}), False)
        self.assertIs(is_level_paper(poor(), "n", {"n": 7}), True)

    def test_a_hearing_state_needs_one_word_for_its_rank_and_all_for_its_level(self):
        desk = Desk({"h": ("hears", {"x": "t", "y": "n"}), "n": ("says", {"x": "n"}), "t": DONE}, "h")
        self.assertIs(is_rank_paper(desk, "h", {"h": 1, "t": 0}), True)
        self.assertIs(is_rank_paper(desk, "h", {"h": 1, "t": 0, "n": 2}), False)
        self.assertIs(is_level_paper(desk, "h", {"h": 1, "n": 0}), False)
        both = Desk({"h": ("hears", {"x": "m", "y": "n"}), "m": ("hears", {"x": "m"}), "n": ("says", {"x": "n"})}, "h")
        for levels, told in (((1, 0, 0), True), ((0, 0, 0), True), ((1, 1, 0), True), ((0, 1, 0), False)):
            self.assertIs(is_level_paper(both, "h", dict(zip("hmn", levels))), told)

    def test_what_is_no_paper(self):
        rank, level = {"s": 1, "t": 0}, {"n": 0, "s": 1}
        self.assertIs(is_rank_paper(loop(), "s", rank), True)
        self.assertIs(is_level_paper(dead(), "s", level), True)
        wrong = [("s", True), ("s", False), ("s", -1), ("s", "1"), ("s", None), ("s", [1]), ("s", (1,)), ("zz", 0),
                 (None, 0), (True, 0), (("s",), 1), (1, 1), ("", 0), ("s\n", 1), (("s", "t"), 1)]
        for key, count in wrong:
            self.assertIs(is_rank_paper(loop(), "s", {**rank, key: count}), False, key)
            self.assertIs(is_level_paper(dead(), "s", {**level, key: count}), False, key)
        for thing in junk() + [[("s", 1), ("t", 0)], (("s", 1), ("t", 0)), "s", ["s", "t"], loop(), [rank], (rank,)]:
            for desk in (loop(), dead(), poor()):
                self.assertIs(is_rank_paper(desk, "s", thing), False, thing)
                self.assertIs(is_level_paper(desk, "s", thing), False, thing)
        self.assertIs(is_rank_paper(loop(), "s", {"t": 0}), False)
        self.assertIs(is_level_paper(dead(), "s", {"n": 0}), False)
        self.assertIs(is_level_paper(dead(), "n", {"n": 0, "t": 0}), False)
        self.assertIs(is_level_paper(dead(), "t", {"t": 0}), False)


class Sayable(unittest.TestCase):
    def test_sayable_words(self):
        for rng in seeds(150):
            desk = lively(rng, "abcd")
            rows = said_rows(desk.book())
            for state in rows:
                self.assertEqual(sayable_words(desk, state), sorted(rows[state][1]))

    def test_states_that_say_keep_all_their_words(self):
        self.assertEqual([sayable_words(dead(), state) for state in "nst"], [["sorry"], ["go", "stop"], []])
        self.assertEqual([sayable_words(poor(), state) for state in "nst"], [["sorry"], ["ok"], []])
        lost = Desk({"h": ("hears", {"x": "h"})}, "h")
        self.assertEqual(sayable_words(lost, "h"), [])

    def test_partners_say_sayable_words_alone(self):
        """And each sayable word of a desk begun there is said by some partner."""
        for rng in seeds(60):
            desk = lively(rng)
            said = {word for other in SMALL if end_well(desk, other) and other.book()["p"][0] == "says"
                    for word in other.book()["p"][1]}
            positional = {word for other in positional_partners(desk)
                          for word in other.book()[desk.start()][1] if desk.book()[desk.start()][0] == "hears"}
            self.assertLessEqual(said, positional)
            if desk.book()[desk.start()][0] == "hears":
                self.assertEqual(sayable_words(desk, desk.start()), sorted(positional))

    def test_the_spoken_desk(self):
        hopeless = 0
        for rng in seeds(150):
            desk = lively(rng, "abcd")
            rows = said_rows(desk.book())
            if not has_partner(desk):
                hopeless += 1
                with self.assertRaises(Hopeless) as caught:
                    spoken_desk(desk)
                self.assertIs(caught.exception.value, desk)
                continue
            told = Desk({state: rows[state] for state in closed(rows, desk.start())}, desk.start())
            self.assertEqual(frozen(spoken_desk(desk)), frozen(told))
        self.assertTrue(20 < hopeless < 130)

    def test_the_spoken_desk_has_the_same_partners(self):
        for rng in seeds(40):
            desk = lively(rng)
            if has_partner(desk):
                spoken = spoken_desk(desk)
                self.assertEqual([other for other in SMALL if end_well(desk, other)],
                                 [other for other in SMALL if end_well(spoken, other)])


class Endings(unittest.TestCase):
    def test_the_fewest_words(self):
        many = 0
        for rng in seeds(120):
            desk = lively(rng, "abc")
            rows = said_rows(desk.book())
            for state in rows:
                whole = [talk for talk in all_rows("xy", 4) if walked(rows, state, talk) is not None
                         and rows[walked(rows, state, talk)][0] == "done"]
                least = len(whole[0]) if is_hopeful(desk.book(), state) else None
                self.assertEqual(frozen(fewest_words(desk, state)), frozen(least))
                talk = ending_talk(desk, state)
                right = [each for each in whole if len(each) == least]
                many += len(right) > 1
                self.assertTrue(talk in right if right else talk is None)
                for value in all_rows("xy", 4):
                    self.assertIs(is_ending_talk(desk, state, value), value in right)
        self.assertGreater(many, 5)

    def test_the_least_rank_of_any_paper(self):
        for rng in seeds(25):
            desk = lively(rng)
            papers = list(dicts_over(states_of(desk), 3))
            for state in states_of(desk):
                ranks = [paper[state] for paper in papers if is_rank_paper(desk, state, paper)]
                self.assertEqual(fewest_words(desk, state), min(ranks) if ranks else None)

    def test_some_partner_ends_with_it_so_soon_and_none_sooner(self):
        for rng in seeds(40):
            desk = lively(rng)
            outs = [Plain(desk, partner).least_out((desk.start(), partner.start()))
                    for partner in positional_partners(desk)]
            self.assertEqual(fewest_words(desk, desk.start()), min(outs) if outs else None)

    def test_words_that_are_not_sayable_do_not_end_it(self):
        book = {"h": ("hears", {"x": "n", "y": "m"}), "n": ("says", {"x": "t", "y": "l"}), "l": ("says", {"x": "l"})}
        desk = Desk({**book, "m": ("says", {"x": "k"}), "k": ("says", {"x": "t"}), "t": DONE}, "h")
        self.assertEqual([fewest_words(desk, "h"), ending_talk(desk, "h")], [3, ["y", "x", "x"]])
        self.assertIs(is_ending_talk(desk, "h", ["x", "x"]), False)
        self.assertEqual([fewest_words(desk, "n"), ending_talk(desk, "n")], [None, None])
        self.assertIs(is_ending_talk(desk, "n", ["x"]), False)
        self.assertEqual([fewest_words(desk, "t"), ending_talk(desk, "t")], [0, []])
        self.assertIs(is_ending_talk(desk, "t", []), True)

    def test_any_object_is_judged(self):
        for desk in (loop(), poor(), dead()):
            for state in "st":
                for thing in not_talks() + [None, ("stop",), {"stop": 1}, "stop"]:
                    self.assertIs(is_ending_talk(desk, state, thing), False)


class Common(unittest.TestCase):
    def test_common_partners(self):
        found = [0, 0]
        for rng in seeds(250):
            first = lively(rng)
            desks = [first] + [near(rng, first) if rng.random() < 0.7 else lively(rng)
                               for _ in range(rng.randint(0, 2))]
            given = common_partner(desks)
            found[given is None] += 1
            self.assertIs(have_common(desks), given is not None)
            if given is None:
                self.assertFalse([one for one in SMALL if all(end_well(desk, one) for desk in desks)])
            else:
                self.assertTrue(all(Plain(desk, given).well for desk in desks))
                self.assertIs(is_common_partner(desks, given), True)
        self.assertGreater(min(found), 50)

    def test_none_is_left_out(self):
        """If there is one, there is one that chooses its words by where the desks may be; all of these are tried."""
        found = [0, 0]
        for rng in seeds(300):
            first = lively(rng, "ab", "xyz", 3)
            desks = [first] + [near(rng, first) for _ in range(rng.randint(1, 2))]
            commons = positional_commons(desks)
            if commons is not None:
                found[not commons] += 1
                self.assertIs(have_common(desks), len(commons) > 0)
                for one in commons[:3]:
                    self.assertIs(is_common_partner(desks, one), True)
        self.assertGreater(min(found), 50)

    def test_whatever_is_a_common_partner(self):
        right = 0
        for rng in seeds(150):
            desks = [lively(rng) for _ in range(rng.randint(1, 2))]
            for other in SMALL:
                told = all(end_well(desk, other) for desk in desks)
                right += told
                self.assertIs(is_common_partner(desks, other), told)
                self.assertTrue(have_common(desks) or not told)
        self.assertGreater(right, 50)

    def test_each_two_have_one_and_all_three_none(self):
        desks = [Desk({"h": ("hears", {word: "t" for word in words}), "t": DONE}, "h") for words in ("xy", "yz", "xz")]
        for some in itertools.combinations(desks, 2):
            self.assertIs(have_common(list(some)), True)
        self.assertIs(have_common(desks), False)
        self.assertIsNone(common_partner(desks))
        self.assertEqual([have_common([desk]) for desk in desks], [True] * 3)

    def test_who_sits_there_may_come_out_later(self):
        """Behind the word that one of them alone says only this one has to be ended with."""
        one = Desk({"a": ("says", {"x": "b"}), "b": ("hears", {"y": "t"}), "t": DONE}, "a")
        two = Desk({"a": ("says", {"z": "b"}), "b": ("hears", {"x": "t"}), "t": DONE}, "a")
        mix = Desk({"a": ("says", {"x": "b", "z": "c"}), "b": ("hears", {"x": "t"}), "c": ("says", {"x": "t"}),
                    "t": DONE}, "a")
        self.assertIs(have_common([one, two]), True)
        self.assertIs(have_common([two, mix]), False)
        self.assertIs(have_common([one, mix]), False)
        self.assertIs(have_common([one, one]), True)

    def test_the_end_of_each_has_to_stay_near(self):
        ear = Desk({"e": DONE, "p": ("hears", {"ok": "e", "wait": "p"})}, "p")
        quick = Desk({"s": ("says", {"ok": "t"}), "t": DONE}, "s")
        slow = Desk({"s": ("says", {"ok": "t", "wait": "s"}), "t": DONE}, "s")
        never = Desk({"s": ("says", {"wait": "s"}), "t": DONE}, "s")
        self.assertIs(is_common_partner([quick, slow], ear), True)
        self.assertIs(is_common_partner([quick, slow, never], ear), False)
        self.assertIs(have_common([quick, never]), False)

    def test_what_is_none(self):
        for thing in not_desks():
            self.assertIs(is_common_partner([loop()], thing), False)
        self.assertIs(is_common_partner([ways(), loop()], all_ear()), True)
        self.assertIs(is_common_partner([ways(), poor()], all_ear()), False)
        self.assertIs(is_common_partner([poor(), ways()], all_ear()), False)


class Rescues(unittest.TestCase):
    def plainly(self, desk):
        """The lots without which a desk has a partner while it has none without any other one that lies within."""
        book = desk.book()
        said = sorted((s, w) for s in book if book[s][0] == "says" for w in book[s][1])
        lots = [list(lot) for many in range(len(said) + 1) for lot in itertools.combinations(said, many)]
        helping = []
        for lot in lots:
            left = {s: (k, {w: g for w, g in t.items() if (s, w) not in lot}) for s, (k, t) in book.items()}
            if all(row[0] == "done" or row[1] for row in left.values()) and is_hopeful(left, desk.start()):
                helping.append(lot)
        return sorted(lot for lot in helping if not [one for one in helping if set(one) < set(lot)])

    def test_rescues(self):
        sizes = set()
        for rng in seeds(120):
            desk = lively(rng, "abc")
            told = self.plainly(desk)
            sizes |= {len(told[0])} if told else {None}
            self.assertEqual(frozen(rescues(desk)), frozen(told))
        self.assertLessEqual({None, 0, 1}, sizes)

    def test_several_and_greater_ones(self):
        book = {"a": ("says", {"x": "n", "y": "b"}), "b": ("says", {"x": "n", "y": "t", "z": "n"}),
                "n": ("says", {"x": "n"})}
        desk = Desk({**book, "t": DONE}, "a")
        self.assertEqual(rescues(desk), [[("a", "x"), ("b", "x"), ("b", "z")]])
        self.assertEqual(rescues(desk), self.plainly(desk))
        book = {"a": ("says", {"x": "b", "y": "t"}), "b": ("says", {"x": "n", "y": "t"}), "n": ("says", {"x": "n"}),
                "t": DONE}
        self.assertEqual(rescues(Desk(book, "a")), [[("a", "x")], [("b", "x")]])

    def test_what_holds_a_rescue_need_not_be_one(self):
        # without "back", too, the ring of a and b is never left
        book = {"a": ("says", {"x": "b", "z": "n"}), "b": ("says", {"x": "a", "y": "t"}), "n": ("says", {"x": "n"}),
                "t": DONE}
        desk = Desk(book, "a")
        self.assertEqual(rescues(desk), [[("a", "z")]])
        both = {**book, "a": ("says", {"x": "b"}), "b": ("says", {"x": "a"})}
        self.assertIs(has_partner(Desk(both, "a")), False)

    def test_none_and_nothing(self):
        self.assertEqual([rescues(loop()), rescues(dead()), rescues(poor())], [[[]], [[("s", "go")]], [[]]])
        self.assertEqual(rescues(Desk({"s": ("hears", {"x": "s"})}, "s")), [])
        self.assertEqual(rescues(Desk({"s": ("says", {"x": "s", "y": "s"})}, "s")), [])
