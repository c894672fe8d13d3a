"""[70] to [77]: desks that are put together, held against how they go along all talks of some words.

A way to go is a function from talks to tuples of a kind and the ascending list of the words, None where the talk
does not lead: how a desk goes along talks is told so, and what is put together is plainly told of such functions.
"""

import itertools
import unittest

from endswell.desks import Desk, begun, changed, come_to, states_of, turned
from endswell.errors import InvalidArms, InvalidCount, InvalidDesk, InvalidFrame, InvalidState, InvalidWord
from endswell.joining import are_alike, breaking_pair, cut_at, filled, heard_choice, heard_rounds, is_breaking_pair
from endswell.joining import is_frame, is_keeping, is_parting_talk, limited_rounds, merged, parting_talk, said_choice
from endswell.joining import said_rounds, stands_in, then, waists
from endswell.stands import least_levels, stands
from tests.helpers import all_rows, frozen, junk, loop, not_counts, not_desks, not_talks, random_desk, seeds, walked
from tests.helpers import ways
from tests.plain import DONE, PlainHeld, closed, lively, near

TWO = Desk({"s": ("says", {"blue": "t", "red": "t"}), "t": DONE}, "s")
RED = Desk({"s": ("says", {"red": "t"}), "t": DONE}, "s")
ASK = Desk({"s": ("hears", {"pay": "t"}), "t": DONE}, "s")
DEAD = Desk({"s": ("says", {"x": "s"})}, "s")
DONE_DESK = Desk({"z": DONE}, "z")


def way_of(desk):
    book = desk.book()

    def goes(talk):
        state = walked(book, desk.start(), talk)
        return None if state is None else (book[state][0], sorted(book[state][1]))
    return goes


def behind(way, talk):
    return lambda more: way(talk + more)


def first_end(way, talk):
    """How many words of a talk lead to where it is done, None if none do."""
    return next((at for at in range(len(talk) + 1) if way(talk[:at]) == ("done", [])), None)


def then_way(way, later):
    def goes(talk):
        at = first_end(way, talk)
        return way(talk) if at is None else later(talk[at:])
    return goes


def choice_way(kind, ways_by_word):
    def goes(talk):
        if not talk:
            return kind, sorted(ways_by_word)
        return ways_by_word[talk[0]](talk[1:]) if talk[0] in ways_by_word else None
    return goes


def done_way(talk):
    return None if talk else ("done", [])


def rounds_way(kind, way, again, enough):
    def goes(talk):
        asking = choice_way(kind, {again: goes, enough: done_way})
        return then_way(way, asking)(talk)
    return goes


def limited_way(way, again, enough, most):
    more = {again: limited_way(way, again, enough, most - 1)} if most else {}
    return then_way(way, choice_way("hears", {**more, enough: done_way}))


def merged_way(one, other):
    def goes(talk):
        (kind, words), (other_kind, others) = one([]), other([])
        if kind != other_kind:
            return one(talk)
        if kind == "hears" and not set(words) & set(others):
            return one(talk)
        if not talk:
            both = set(words) | set(others) if kind == "says" else set(words) & set(others)
            return kind, sorted(both)
        first = talk[:1]
        if first[0] in words and first[0] in others:
            return merged_way(behind(one, first), behind(other, first))(talk[1:])
        if kind != "says":
            return None
        return one(talk) if first[0] in words else other(talk)
    return goes


def piece_way(piece, desk):
    """How a frame goes with a desk at its place."""
    if piece is None or isinstance(piece, Desk):
        return way_of(piece or desk)
    if piece[0] == "then":
        return then_way(piece_way(piece[1], desk), piece_way(piece[2], desk))
    if piece[0] in ("says", "hears"):
        return choice_way(piece[0], {word: piece_way(arm, desk) for word, arm in piece[1].items()})
    kind = {"said rounds": "says", "heard rounds": "hears"}[piece[0]]
    return rounds_way(kind, piece_way(piece[1], desk), piece[2], piece[3])


class Goes(unittest.TestCase):
    def goes(self, desk, way, most=7):
        """Look at all talks up to so many words, along which both go."""
        layer, given = [[]], way_of(desk)
        for _ in range(most):
            for talk in layer:
                self.assertEqual(given(talk), way(talk), (desk.book(), talk))
            layer = [talk + [word] for talk in layer for word in (way(talk) or ("", []))[1]][:300]
        return len(layer)


class PutTogether(Goes):
    def test_then(self):
        for rng in seeds(120):
            one, other = lively(rng), random_desk(rng, "abc", "xy")
            self.goes(then(one, other), then_way(way_of(one), way_of(other)))
        for desk in (loop(), DEAD, DONE_DESK):
            self.assertIs(are_alike(then(DONE_DESK, desk), desk), True)
            self.assertIs(are_alike(then(desk, DONE_DESK), desk), True)
            self.assertIs(are_alike(then(DEAD, desk), DEAD), True)

    def test_choices(self):
        for rng in seeds(80):
            arms = {word: lively(rng) for word in rng.sample(["x", "y", "z"], rng.randint(1, 3))}
            told = {word: way_of(desk) for word, desk in arms.items()}
            self.goes(said_choice(arms), choice_way("says", told), 6)
            self.goes(heard_choice(arms), choice_way("hears", told), 6)
        self.assertIs(are_alike(said_choice({"red": DONE_DESK}), RED), True)
        self.assertIs(are_alike(heard_choice({"pay": DONE_DESK}), ASK), True)

    def test_merged(self):
        shared = 0
        for rng in seeds(250):
            one = lively(rng)
            other = near(rng, one) if rng.random() < 0.6 else random_desk(rng, "abc", "xyz")
            shared += not are_alike(merged(one, other), one)
            self.goes(merged(one, other), merged_way(way_of(one), way_of(other)))
            self.assertIs(are_alike(merged(one, one), one), True)
        self.assertGreater(shared, 25)

    def test_merged_by_hand(self):
        other = Desk({"s": ("says", {"blue": "n"}), "n": ("hears", {"x": "t", "y": "t"}), "t": DONE}, "s")
        both = merged(RED, other)
        self.assertEqual([way_of(both)([]), way_of(both)(["blue"]), way_of(both)(["red"])],
                         [("says", ["blue", "red"]), ("hears", ["x", "y"]), ("done", [])])
        hears = Desk({"s": ("hears", {"pay": "n", "x": "t"}), "n": ("says", {"x": "n"}), "t": DONE}, "s")
        self.assertEqual(way_of(merged(hears, ASK))([]), ("hears", ["pay"]))
        self.assertEqual(way_of(merged(hears, ASK))(["pay"]), ("says", ["x"]))
        self.assertEqual(way_of(merged(ASK, hears))(["pay"]), ("done", []))
        self.assertIs(are_alike(merged(ASK, turned(RED)), ASK), True)
        self.assertIs(are_alike(merged(ASK, RED), ASK), True)

    def test_if_both_stand_merged_they_do(self):
        many = 0
        for rng in seeds(400):
            desk = lively(rng)
            one, other = near(rng, desk), near(rng, desk)
            if stands(desk, one) and stands(desk, other):
                many += one != other
                self.assertIs(stands(desk, merged(one, other)), True)
        self.assertGreater(many, 40)

    def test_rounds(self):
        for rng in seeds(100):
            desk = lively(rng) if rng.random() < 0.9 else DONE_DESK
            again, enough = rng.sample(["x", "y", "z"], 2)
            self.goes(said_rounds(desk, again, enough), rounds_way("says", way_of(desk), again, enough))
            self.goes(heard_rounds(desk, again, enough), rounds_way("hears", way_of(desk), again, enough))
            for most in range(4):
                limited = limited_rounds(desk, again, enough, most)
                self.goes(limited, limited_way(way_of(desk), again, enough, most))

    def test_limited_rounds_keep_the_order(self):
        many = 0
        for rng in seeds(150):
            desk = lively(rng, kinds=("says", "says", "hears"))
            newer = near(rng, desk)
            if stands(desk, newer):
                many += 1
                for most in range(3):
                    self.assertIs(stands(limited_rounds(desk, "x", "o", most), limited_rounds(newer, "x", "o", most)),
                                  True)
                self.assertIs(stands(said_rounds(desk, "x", "o"), said_rounds(newer, "x", "o")), True)
        self.assertGreater(many, 50)

    def test_the_levels_of_limited_rounds(self):
        for most in range(6):
            levels = least_levels(limited_rounds(TWO, "on", "off", most), limited_rounds(RED, "on", "off", most))
            self.assertEqual(max(levels.values()), most + 1)
        self.assertIs(stands(heard_rounds(TWO, "on", "off"), heard_rounds(RED, "on", "off")), False)

    def test_great_desks(self):
        row = Desk({**{chr(97 + at // 26) + chr(97 + at % 26): ("says", {"on": chr(97 + (at + 1) // 26) +
                    chr(97 + (at + 1) % 26)}) for at in range(149)}, "ft": DONE}, "aa")
        self.assertEqual(len(states_of(row)), 150)
        self.assertEqual([len(come_to(desk)) for desk in (then(row, row), said_choice({"x": row}), merged(row, row),
                                                          heard_rounds(row, "x", "y"), filled(("then", None, ASK),
                                                                                              row))],
                         [299, 151, 150, 151, 151])
        self.assertEqual(len(waists(row)), 150)
        self.assertEqual([len(states_of(part)) for part in cut_at(row, "ca")], [53, 150])
        self.assertIs(are_alike(then(*cut_at(row, "ca")), row), True)
        self.assertIs(stands_in(("said rounds", None, "x", "y"), row, row), True)


class WrongParts(unittest.TestCase):
    def check(self, error, value, function, *arguments):
        before = frozen(value)
        with self.assertRaises(error) as caught:
            function(*arguments)
        self.assertIs(caught.exception.value, value)
        self.assertEqual(frozen(value), before)

    def test_arms(self):
        wrong = [{"x": None}, {"x": RED, "y": "s"}, {"X": RED}, {"": RED}, {1: RED}, {True: RED}, {None: RED},
                 {("x",): RED}, {"x": RED, 1: RED}, [("x", RED)], ["x", RED], ("x", RED), RED, {"x": RED.book()},
                 {"abcdefghi": RED}, {"x": [RED]}, {"x": {"x": RED}}, {RED.start(): (RED,)}]
        for value in junk() + wrong:
            for function in (said_choice, heard_choice):
                self.check(InvalidArms, value, function, value)

    def test_words_of_rounds(self):
        wrong = [thing for thing in junk() if not isinstance(thing, str)] + ["A", "a b", "", "abcdefghi", ["x"], loop()]
        for function, more in ((said_rounds, []), (heard_rounds, []), (limited_rounds, [1]), (limited_rounds, [None])):
            for value in wrong:
                self.check(InvalidWord, value, function, loop(), value, "x", *more)
                self.check(InvalidWord, value, function, loop(), value, value, *more)
                self.check(InvalidWord, value, function, loop(), value, None, *more)
                self.check(InvalidWord, value, function, loop(), "x", value, *more)
            word = "ab" + "cd"
            self.check(InvalidWord, word, function, loop(), "abcd", word, *more)
            for value in not_desks():
                self.check(InvalidDesk, value, function, value, None, None, *more)

    def test_counts_of_rounds(self):
        for value in not_counts():
            self.check(InvalidCount, value, limited_rounds, loop(), "x", "y", value)

    def test_none_of_them_changes_the_arms(self):
        arms = {"x": loop(), "a": RED}
        said, heard = said_choice(arms), heard_choice(arms)
        self.assertEqual(list(arms), ["x", "a"])
        before = frozen([said, heard])
        arms.clear()
        self.assertEqual(frozen([said, heard]), before)


def random_piece(rng, deep, place):
    """A piece in which the place stands or not."""
    if deep == 0 or rng.random() < 0.15:
        return None if place else rng.choice([RED, ASK, TWO, lively(rng, "a"), lively(rng, "ab")])
    word = rng.choice(["then", "says", "hears", "said rounds", "heard rounds"])
    if word == "then":
        front = rng.random() < 0.5
        return word, random_piece(rng, deep - 1, place and front), random_piece(rng, deep - 1, place and not front)
    if word in ("says", "hears"):
        words = rng.sample(["x", "y", "z"], rng.randint(1, 2))
        at = rng.choice(words)
        return word, {each: random_piece(rng, deep - 1, place and each == at) for each in words}
    again, enough = rng.sample(["x", "y", "on"], 2)
    return word, random_piece(rng, deep - 1, place), again, enough


class Frames(Goes):
    def test_filled(self):
        for rng in seeds(150):
            frame, desk = random_piece(rng, rng.randint(0, 3), True), lively(rng)
            self.assertIs(is_frame(frame), True)
            self.goes(filled(frame, desk), piece_way(frame, desk), 6)
        self.assertEqual(filled(None, loop()), loop())

    def test_is_frame(self):
        right = [None, ("then", None, RED), ("then", RED, None), ("says", {"x": None}), ("hears", {"x": RED,
                                                                                                   "y": None}),
                 ("said rounds", None, "x", "y"), ("heard rounds", ("then", ASK, ("says", {"x": None})), "x", "y")]
        wrong = [RED, ("then", RED, RED), ("then", None, None), ("then", None), ("then", None, RED, RED), ("then",), (),
                 ("says", {}), ("says", {"x": None, "y": None}), ("says", {"X": None}), ("says", {1: None, "x": RED}),
                 ("says", None), ("says", {"x": None}, RED), ("says", [("x", None)]), ("said rounds", None, "x", "x"),
                 ("said rounds", None, "x"), ("said rounds", None, "x", "Y"), ("said rounds", None, True, "y"),
                 ("heard rounds", RED, "x", "y"), ("heard rounds", None, "x", "y", "z"), ["then", None, RED],
                 ("never", None), ("done", {}), (None,), (None, None), ("then", None, "s"), ("then", None, RED.book()),
                 ("then", None, ("then", RED, None)), ("says", {"x": None, "y": 1}), ("says", {"x": [None]}),
                 ("then", (), None), (1, None), (["then"], None, RED), ("said_rounds", None, "x", "y"), {"then": None},
                 ("says", {"x": ("hears", {})}), ("never", {"x": None}), ("then", None, ("then", "s", RED)),
                 ("then", None, ("says", {"x": 1})), ("hears", {"x": None, "y": ("then", None)}), ("limited rounds",
                                                                                                   None, "x", "y", 1),
                                                                                                   ("Then", None, RED)]
        for frame in right:
            self.assertIs(is_frame(frame), True)
        for value in [thing for thing in junk() if thing is not None] + wrong:
            self.assertIs(is_frame(value), False, value)
            for function, more in ((filled, [RED]), (filled, [None]), (stands_in, [RED, RED]), (stands_in, [None,
                                                                                                            None]),
                                   (is_keeping, []), (breaking_pair, []), (is_breaking_pair, [(TWO, RED)])):
                with self.assertRaises(InvalidFrame) as caught:
                    function(value, *more)
                self.assertIs(caught.exception.value, value)

    def test_the_place_stands_just_once(self):
        for rng in seeds(80):
            self.assertIs(is_frame(random_piece(rng, 3, False)), False)
            front, back = random_piece(rng, 2, True), random_piece(rng, 2, True)
            self.assertIs(is_frame(("then", front, back)), False)
            self.assertIs(is_frame(("says", {"x": front, "y": back})), False)

    def test_wrong_desks(self):
        for value in not_desks():
            for frame in (None, ("says", {"x": None}), ("then", ASK, None), ("heard rounds", None, "on", "off")):
                for function, arguments in ((filled, [frame, value]), (stands_in, [frame, value, None]),
                                            (stands_in, [frame, RED, value])):
                    with self.assertRaises(InvalidDesk) as caught:
                        function(*arguments)
                    self.assertIs(caught.exception.value, value)


class Order(unittest.TestCase):
    def test_stands_in(self):
        told = [0, 0]
        for rng in seeds(150):
            frame, elder = random_piece(rng, rng.randint(0, 2), True), lively(rng, "ab")
            newer = near(rng, elder)
            one, other = filled(frame, elder), filled(frame, newer)
            if len(states_of(one)) * len(states_of(other)) > 60:
                continue
            right = PlainHeld(one, other).raised() is not None
            told[right] += 1
            self.assertIs(stands_in(frame, elder, newer), right)
        self.assertGreater(min(told), 20)

    def test_keeping_frames_keep_any_two(self):
        told = [0, 0]
        for rng in seeds(250):
            frame = random_piece(rng, rng.randint(0, 3), True)
            keeps = is_keeping(frame)
            told[keeps] += 1
            found = breaking_pair(frame)
            self.assertIs(found is None, keeps)
            if found is not None:
                self.assertIs(is_breaking_pair(frame, found), True)
                self.assertEqual([stands(*found), stands(filled(frame, found[0]), filled(frame, found[1]))],
                                 [True, False])
            for _ in range(6):
                elder = lively(rng, kinds=("says", "says", "hears"))
                newer = near(rng, elder)
                right = stands(elder, newer) and not stands(filled(frame, elder), filled(frame, newer))
                self.assertIs(is_breaking_pair(frame, (elder, newer)), right)
                self.assertTrue(not right or not keeps)
        self.assertGreater(min(told), 25)

    def test_without_heard_rounds_all_is_kept(self):
        for rng in seeds(150):
            frame = random_piece(rng, 3, True)
            if "heard rounds" not in repr(frame):
                self.assertIs(is_keeping(frame), True)

    def test_heard_rounds_in_which_nothing_comes_to_the_place(self):
        self.assertIs(is_keeping(("heard rounds", None, "a", "b")), False)
        self.assertIs(is_keeping(("then", DEAD, ("heard rounds", None, "a", "b"))), True)
        self.assertIs(is_keeping(("heard rounds", ("hears", {"a": RED, "b": ("then", None, DEAD)}), "a", "b")), True)
        self.assertIs(is_keeping(("heard rounds", ("says", {"a": DEAD, "b": None}), "a", "b")), True)
        self.assertIs(is_keeping(("heard rounds", ("hears", {"a": RED, "b": None}), "a", "b")), False)

    def test_wrong_pairs(self):
        frame = ("heard rounds", None, "on", "off")
        self.assertIs(is_breaking_pair(frame, (TWO, RED)), True)
        wrong = [[TWO, RED], (RED, TWO), (TWO,), (TWO, RED, RED), (TWO, TWO), (TWO, None), (None, RED),
                 {TWO.start(): RED},
                 (TWO, ASK), ((TWO, RED),), TWO, (TWO.book(), RED.book()), ([TWO], [RED])]
        for value in junk() + wrong:
            self.assertIs(is_breaking_pair(frame, value), False, value)


def waists_plainly(desk):
    """The states on every row without a ring from the start to a done state."""
    book, rows, found = desk.book(), [[desk.start()]], []
    while rows:
        row = rows.pop()
        if book[row[-1]][0] == "done":
            found.append(set(row))
        rows += [row + [goal] for goal in set(book[row[-1]][1].values()) if goal not in row]
    return sorted(set.intersection(*found)) if found else []


class Waists(Goes):
    def test_waists(self):
        many = 0
        for rng in seeds(300):
            desk = lively(rng, "abcd") if rng.random() < 0.7 else random_desk(rng, "abcd", "xy")
            right = waists_plainly(desk)
            many += len(right) > 2
            self.assertEqual(waists(desk), right)
        self.assertGreater(many, 25)
        self.assertEqual([waists(DEAD), waists(DONE_DESK), waists(loop()), waists(ways())],
                         [[], ["z"], ["s", "t"], ["a", "t"]])
        self.assertEqual(waists(Desk({"s": ("says", {"x": "s"}), "t": DONE}, "s")), [])

    def test_cuts(self):
        for rng in seeds(200):
            desk = lively(rng, "abcd")
            for state in waists(desk):
                first, second = cut_at(desk, state)
                self.assertIs(are_alike(then(first, second), desk), True)
                self.assertIs(are_alike(second, begun(desk, state)), True)
                self.assertEqual(waists_plainly(begun(desk, state)), waists_plainly(second))
                for talk in all_rows("xy", 5):
                    given, behind_it = way_of(first)(talk), walked(desk.book(), desk.start(), talk)
                    passed = any(walked(desk.book(), desk.start(), talk[:at]) == state for at in range(len(talk)))
                    if behind_it is not None and not passed:
                        self.assertEqual(given == ("done", []), behind_it == state)
                    else:
                        self.assertIsNone(given)

    def test_wrong_states(self):
        for value in junk() + ["b", "zz", "out", ["a"], ("a",), loop()]:
            with self.assertRaises(InvalidState) as caught:
                cut_at(ways(), value)
            self.assertIs(caught.exception.value, value)
        for state in ("s", "t"):
            with self.assertRaises(InvalidState):
                cut_at(Desk({"s": ("says", {"x": "s"}), "t": DONE}, "s"), state)


class Alike(unittest.TestCase):
    def test_alike_and_parting(self):
        told = [0, 0]
        for rng in seeds(300):
            one = lively(rng, "ab")
            other = near(rng, one) if rng.random() < 0.7 else lively(rng, "ab")
            if rng.random() < 0.3:
                other = merged(one, one)
            first, second = way_of(one), way_of(other)
            talks = [talk for talk in all_rows("xy", 6) if first(talk) and second(talk) and first(talk) != second(talk)]
            given = parting_talk(one, other)
            told[given is None] += 1
            self.assertIs(are_alike(one, other), not talks)
            if talks:
                self.assertIn(given, [talk for talk in talks if len(talk) == len(talks[0])])
            else:
                self.assertIsNone(given)
            for talk in all_rows("xy", 4):
                self.assertIs(is_parting_talk(one, other, talk), talk in talks)
        self.assertGreater(min(told), 60)

    def test_wrong_talks(self):
        for value in not_talks():
            self.assertIs(is_parting_talk(ASK, RED, value), False)
        self.assertIs(is_parting_talk(ASK, RED, []), True)

    def test_only_what_can_be_come_to_counts(self):
        one = changed(loop(), ("put", "z", ("hears", {"x": "z"})))
        self.assertEqual([are_alike(one, loop()), one == loop()], [True, False])
        self.assertEqual(len(list(itertools.product(closed(one.book(), "s"), repeat=2))), 4)
