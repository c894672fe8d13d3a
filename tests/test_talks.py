"""[17], [18] and [20]: talks, whole ones, and how many there are."""

import unittest

from endswell.desks import Desk, begun
from endswell.errors import InvalidCount, InvalidDesk, InvalidTalk
from endswell.talks import is_longest_whole, is_shortest_whole, is_talk, is_whole, longest_whole, many_talks, many_whole
from endswell.talks import shortest_whole, spoken, state_behind, turns_behind, whole_at, whole_place
from tests.helpers import all_rows, frozen, junk, loop, not_counts, not_desks, not_talks, random_desk, seeds, short
from tests.helpers import walked, ways

DONE = ("done", {})
WORDS = ["no", "x", "yes"]


def wholes(desk, size):
    """All whole talks of so many words, ascending, found by trying each list of words."""
    book = desk.book()
    states = [(desk.start(), [])]
    for _ in range(size):
        states = [(book[s][1][w], talk + [w]) for s, talk in states for w in book[s][1]]
    return sorted(talk for state, talk in states if book[state][0] == "done")


class Talks(unittest.TestCase):
    def test_talks(self):
        for talk in ([], ["a"], ["more", "more"], ["abcdefgh"] * 50, ["z", "a"]):
            self.assertIs(is_talk(talk), True)

    def test_what_is_no_talk(self):
        for thing in not_talks():
            self.assertIs(is_talk(thing), False, thing)

    def test_the_state_behind(self):
        for rng in seeds(40):
            desk = random_desk(rng)
            for talk in all_rows(WORDS, 4):
                state = walked(desk.book(), desk.start(), talk)
                self.assertEqual(state_behind(desk, talk), state)
                self.check_behind(desk, talk, state)

    def check_behind(self, desk, talk, state):
        if state is None:
            for function in (turns_behind, spoken):
                with self.assertRaises(InvalidTalk) as caught:
                    function(desk, talk)
                self.assertIs(caught.exception.value, talk)
            return
        kind, turns = desk.book()[state]
        self.assertEqual(frozen(turns_behind(desk, talk)), frozen((kind, sorted(turns))))
        kinds = [desk.book()[walked(desk.book(), desk.start(), talk[:at])][0] for at in range(len(talk))]
        self.assertEqual(frozen(spoken(desk, talk)), frozen(list(zip(kinds, talk))))

    def test_behind_no_word_and_behind_strange_ones(self):
        self.assertEqual(state_behind(loop(), []), "s")
        self.assertEqual(turns_behind(loop(), []), ("says", ["more", "stop"]))
        self.assertEqual(turns_behind(loop(), ["stop"]), ("done", []))
        self.assertEqual(turns_behind(short(), ["go"]), ("hears", ["no", "yes"]))
        self.assertEqual(spoken(loop(), []), [])
        self.assertIsNone(state_behind(loop(), ["never"]))
        self.assertIsNone(state_behind(loop(), ["stop", "more"]))
        self.assertIsNone(state_behind(loop(), ["more", "never", "more"]))
        self.assertEqual(state_behind(begun(loop(), "t"), []), "t")

    def test_whoever_says_the_words(self):
        desk = Desk({"a": ("says", {"x": "b"}), "b": ("hears", {"x": "a", "y": "t"}), "t": DONE}, "a")
        told = [("says", "x"), ("hears", "x"), ("says", "x"), ("hears", "y")]
        self.assertEqual(spoken(desk, ["x", "x", "x", "y"]), told)
        self.assertTrue(is_whole(desk, ["x", "y"]))


class WholeTalks(unittest.TestCase):
    def test_whole(self):
        for rng in seeds(40):
            desk = random_desk(rng)
            for talk in all_rows(WORDS, 3):
                self.assertIs(is_whole(desk, talk), talk in wholes(desk, len(talk)))

    def test_shortest_and_longest(self):
        for rng in seeds(150):
            desk = random_desk(rng, kinds=rng.choice([("says", "done"), ("says", "hears", "done"), ("hears",)]))
            self.check_ends(desk)
            # words led forth alone, so that there often is a longest talk
            forth = {s: (k, {w: max(s, g) for w, g in t.items()}) for s, (k, t) in desk.book().items()}
            last = max(forth)
            forth = {s: (k, {w: g if g > s else last for w, g in t.items()}) for s, (k, t) in forth.items()}
            self.check_ends(Desk({**forth, last: DONE}, min(forth)))

    def check_ends(self, desk):
        states = len(desk.book())
        sizes = [size for size in range(2 * states + 1) if wholes(desk, size)]
        # a whole talk with as many words as states goes round somewhere, so there are ever longer ones
        around = [size for size in sizes if size >= states]
        shortest = wholes(desk, sizes[0]) if sizes else []
        longest = wholes(desk, sizes[-1]) if sizes and not around else []
        self.check_any(shortest_whole(desk), shortest)
        self.check_any(longest_whole(desk), longest)
        for value in all_rows(WORDS, 3) + shortest + longest:
            self.assertIs(is_shortest_whole(desk, value), value in shortest)
            self.assertIs(is_longest_whole(desk, value), value in longest)
        for talk in shortest[:3] + longest[:3]:
            for value in (talk + ["x"], talk[1:] if talk else ["x"], talk[:-1] if talk else ["x"], tuple(talk)):
                self.assertIs(is_shortest_whole(desk, value), value in shortest)
                self.assertIs(is_longest_whole(desk, value), value in longest)

    def check_any(self, given, all_right):
        if all_right:
            self.assertIn(given, all_right)
        else:
            self.assertIsNone(given)

    def test_where_a_round_is_left_aside(self):
        aside = Desk({"a": ("says", {"x": "b", "y": "t"}), "b": ("says", {"x": "b"}), "t": DONE}, "a")
        self.assertEqual(longest_whole(aside), ["y"])
        apart = Desk({"a": ("says", {"y": "t"}), "b": ("says", {"x": "b", "y": "t"}), "t": DONE}, "a")
        self.assertEqual(longest_whole(apart), ["y"])
        self.assertIs(is_longest_whole(apart, ["y"]), True)
        self.assertIsNone(longest_whole(begun(apart, "b")))
        self.assertIsNone(longest_whole(begun(aside, "b")))
        self.assertIsNone(shortest_whole(begun(aside, "b")))
        self.assertIs(is_longest_whole(begun(apart, "b"), ["y"]), False)
        self.assertIs(is_shortest_whole(begun(apart, "b"), ["y"]), True)

    def test_several_of_one_size(self):
        self.assertIn(shortest_whole(short()), [["go", "no"], ["go", "yes"]])
        for talk in (["go", "no"], ["go", "yes"]):
            self.assertIs(is_shortest_whole(short(), talk), True)
            self.assertIs(is_longest_whole(short(), talk), True)

    def test_the_way_through_many_states_of_unlike_length(self):
        book = {"a": ("says", {"x": "b", "y": "d"}), "b": ("hears", {"x": "c"}), "c": ("says", {"x": "d", "z": "t"})}
        desk = Desk({**book, "d": ("hears", {"x": "t", "y": "e"}), "e": ("says", {"y": "t"}), "t": DONE}, "a")
        self.assertEqual(longest_whole(desk), ["x", "x", "x", "y", "y"])
        self.assertEqual(shortest_whole(desk), ["y", "x"])

    def test_done_at_the_start(self):
        desk = begun(loop(), "t")
        self.assertEqual((shortest_whole(desk), longest_whole(desk)), ([], []))
        self.assertIs(is_shortest_whole(desk, []), True)
        self.assertIs(is_longest_whole(desk, []), True)
        self.assertIs(is_whole(desk, []), True)
        self.assertEqual([many_whole(desk, 0), many_whole(desk, 1), whole_at(desk, 0, 0)], [1, 0, []])
        self.assertEqual(whole_place(desk, []), 0)

    def test_any_object_is_judged(self):
        for desk in (loop(), short(), begun(loop(), "t"), Desk({"s": ("says", {"x": "s"})}, "s")):
            for thing in not_talks() + [None, ("stop",), "stop", ("go", "no"), {"stop": 1}, ["stop", True]]:
                self.assertIs(is_shortest_whole(desk, thing), False)
                self.assertIs(is_longest_whole(desk, thing), False)


class HowMany(unittest.TestCase):
    def test_counts_places_and_talks(self):
        for rng in seeds(60):
            desk = random_desk(rng)
            for size in range(5):
                listed = wholes(desk, size)
                self.assertEqual(many_talks(desk, size), self.plainly_many(desk, size))
                self.assertEqual(many_whole(desk, size), len(listed))
                self.assertEqual([whole_at(desk, size, at) for at in range(len(listed))], listed)
                for at, talk in enumerate(listed):
                    self.assertEqual(frozen(whole_place(desk, talk)), frozen(at))
                for wrong in (len(listed), len(listed) + 1, 10 ** 29):
                    with self.assertRaises(InvalidCount) as caught:
                        whole_at(desk, size, wrong)
                    self.assertIs(caught.exception.value, wrong)

    def plainly_many(self, desk, size):
        return len([1 for talk in all_rows(WORDS, size) if len(talk) == size
                    and walked(desk.book(), desk.start(), talk) is not None])

    def test_talks_that_are_not_whole_have_no_place(self):
        for rng in seeds(30):
            desk = random_desk(rng)
            for talk in all_rows(WORDS, 3):
                if talk not in wholes(desk, len(talk)):
                    self.assertIsNone(whole_place(desk, talk))
        self.assertIsNone(whole_place(loop(), ["never"]))

    def test_more_than_can_be_listed(self):
        turns = {"a": "s", "b": "s", "c": "s", "d": "s", "e": "t"}
        desk = Desk({"s": ("hears", turns), "t": DONE}, "s")
        many = 4 ** 40
        self.assertEqual([many_whole(desk, 41), many_talks(desk, 41)], [many, many * 5])
        self.assertEqual([many_whole(desk, 40), many_talks(desk, 40)], [many // 4, many // 4 * 5])
        self.assertEqual(whole_at(desk, 41, 0), ["a"] * 40 + ["e"])
        self.assertEqual(whole_at(desk, 41, many - 1), ["d"] * 40 + ["e"])
        self.assertEqual(whole_at(desk, 40, 5 * 4 ** 30 + 2), ["a"] * 7 + ["b", "b"] + ["a"] * 29 + ["c", "e"])
        for number in (0, 1, 12345678901234567890, many // 3, many - 1):
            self.assertEqual(whole_place(desk, whole_at(desk, 41, number)), number)
        with self.assertRaises(InvalidCount):
            whole_at(desk, 41, many)

    def test_none_at_all(self):
        desk = Desk({"s": ("says", {"x": "s", "y": "s"})}, "s")
        self.assertEqual([many_talks(desk, size) for size in (0, 1, 3)], [1, 2, 8])
        self.assertEqual([many_whole(desk, size) for size in (0, 1, 3)], [0, 0, 0])
        with self.assertRaises(InvalidCount):
            whole_at(desk, 0, 0)
        self.assertEqual([many_talks(begun(loop(), "t"), size) for size in (0, 1, 2)], [1, 0, 0])

    def test_wrong_counts(self):
        for thing in not_counts():
            for function in (many_talks, many_whole):
                with self.assertRaises(InvalidCount) as caught:
                    function(loop(), thing)
                self.assertIs(caught.exception.value, thing)
            for number in (0, None, thing):
                with self.assertRaises(InvalidCount) as caught:
                    whole_at(loop(), thing, number)
                self.assertIs(caught.exception.value, thing)
            with self.assertRaises(InvalidCount) as caught:
                whole_at(ways(), 1, thing)
            self.assertIs(caught.exception.value, thing)


class WrongArguments(unittest.TestCase):
    def test_the_desk_is_told_first(self):
        with_talk = (state_behind, turns_behind, spoken, is_whole, is_shortest_whole, is_longest_whole, whole_place)
        for thing in not_desks():
            calls = [(shortest_whole, ()), (longest_whole, ())]
            calls += [(function, (talk,)) for function in with_talk for talk in (["x"], None)]
            calls += [(function, (size,)) for function in (many_talks, many_whole) for size in (1, None)]
            calls += [(whole_at, others) for others in ((1, 0), (None, None), (1, None))]
            for function, others in calls:
                with self.assertRaises(InvalidDesk) as caught:
                    function(thing, *others)
                self.assertIs(caught.exception.value, thing)

    def test_talks(self):
        for thing in not_talks():
            for function in (state_behind, turns_behind, spoken, is_whole, whole_place):
                with self.assertRaises(InvalidTalk) as caught:
                    function(loop(), thing)
                self.assertIs(caught.exception.value, thing)

    def test_talks_that_were_passed_stay_and_may_change(self):
        desk, talk = loop(), ["more", "stop"]
        told = spoken(desk, talk)
        for function in (state_behind, turns_behind, spoken, is_whole, whole_place, is_shortest_whole):
            function(desk, talk)
            self.assertEqual(talk, ["more", "stop"])
        talk.append("more")
        self.assertEqual(told, [("says", "more"), ("says", "stop")])

    def test_what_is_returned_is_new(self):
        for function in (shortest_whole, longest_whole):
            desk = short()
            given = function(desk)
            told = list(given)
            given.append("spoilt")
            self.assertEqual(function(desk), told)

    def test_junk_is_never_whole(self):
        for thing in junk():
            if thing != []:
                self.assertIs(is_shortest_whole(loop(), thing), False)
