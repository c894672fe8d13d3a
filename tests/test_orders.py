"""[50] to [56]: the order of desks, held against answers that are found plainly."""

import itertools
import unittest

from endswell.desks import Desk, begun, changed, come_to, kind_of, renamed, states_of, turned
from endswell.errors import Hopeless, InvalidTalk
from endswell.facing import end_well
from endswell.orders import choice_ring, fooling_desk, going_on, is_choice_ring, is_fooling_desk, is_least_desk
from endswell.orders import is_likeness, is_parting_partner, is_split, is_stand_in, least_desk, likeness, one_tells
from endswell.orders import order_between, parting_partner, same_partners, split_of, stand_in, standing_pairs, tester
from endswell.stands import stands
from endswell.talks import state_behind
from endswell.viable import has_partner, spoken_desk
from tests.helpers import Plain, all_rows, junk, loop, not_desks, not_talks, seeds, walked, ways
from tests.plain import DONE, SMALL, PlainHeld, bent, closed, dicts_over, lively, near, positional_partners, said_rows
from tests.plain import positional_stand_ins, two_desks

NEVER = Desk({"s": ("says", {"more": "s"})}, "s")
QUIET = Desk({"s": ("says", {"stop": "t"}), "t": DONE}, "s")
MAYBE = Desk({"q": ("hears", {"ok": "t", "no": "n"}), "n": ("says", {"sorry": "n"}), "t": DONE}, "q")
SHORT = Desk({"q": ("hears", {"ok": "t"}), "t": DONE}, "q")


def asker():
    book = {"s": ("hears", {"left": "l", "right": "r"}), "l": ("says", {"on": "s", "end": "t"}), "t": DONE}
    return Desk({**book, "r": ("says", {"on": "s", "end": "t"})}, "s")


def late():
    return changed(asker(), ("drop", "l", "end"))


def stands_plainly(elder, newer):
    return PlainHeld(elder, newer).raised() is not None


def ringing(rng):
    """A desk in which both sides often choose, and come back."""
    book = {"a": ("hears", {"x": rng.choice("bc"), "y": rng.choice("abct")}), "t": DONE}
    for state in "bc":
        words = rng.sample("xy", rng.randint(1, 2))
        book[state] = (rng.choice(["says", "says", "hears"]), {word: rng.choice("abct") for word in words})
    return Desk(book, rng.choice("aab"))


class Standing(unittest.TestCase):
    def test_standing_pairs(self):
        for rng in seeds(80):
            elder, newer = two_desks(rng)
            told = [(one, other) for one in states_of(elder) for other in states_of(newer)
                    if stands_plainly(begun(elder, one), begun(newer, other))]
            self.assertEqual(standing_pairs(elder, newer), told)

    def test_states_that_are_not_viable_ask_for_nothing(self):
        dead = Desk({"s": ("says", {"go": "n", "stop": "t"}), "n": ("says", {"x": "n"}), "t": DONE}, "s")
        self.assertEqual(standing_pairs(dead, SHORT), [("n", "q"), ("n", "t"), ("s", "q"), ("s", "t"), ("t", "t")])
        self.assertEqual(standing_pairs(SHORT, dead), [("t", "t")])

    def test_going_on(self):
        for rng in seeds(80):
            elder, newer = two_desks(rng)
            pairs = standing_pairs(elder, newer)
            for talk in all_rows("xy", 3):
                state = walked(elder.book(), elder.start(), talk)
                if state is None:
                    with self.assertRaises(InvalidTalk) as caught:
                        going_on(elder, newer, talk)
                    self.assertIs(caught.exception.value, talk)
                else:
                    self.assertEqual(going_on(elder, newer, talk), [other for one, other in pairs if one == state])

    def test_then_no_partner_that_has_talked_so_far_is_spoiled(self):
        for rng in seeds(60):
            elder, newer = two_desks(rng)
            for partner in positional_partners(elder):
                for talk in all_rows("xy", 2):
                    pair = Plain(elder, partner).behind(talk)
                    for state in going_on(elder, newer, talk) if pair else []:
                        self.assertIs(end_well(begun(newer, state), begun(partner, pair[1])), True)

    def test_its_own_state_is_among_them_if_it_stands(self):
        for rng in seeds(100):
            elder, newer = two_desks(rng)
            plain = PlainHeld(elder, newer)
            if plain.viable and stands(elder, newer):
                for talk in all_rows("xy", 3):
                    if plain.behind(talk) is not None:
                        self.assertIn(state_behind(newer, talk), going_on(elder, newer, talk))

    def test_talks_that_no_partner_has_may_be_had(self):
        self.assertEqual([going_on(MAYBE, SHORT, ["no"]), going_on(MAYBE, SHORT, ["no", "sorry"])], [["q", "t"]] * 2)
        self.assertEqual([going_on(MAYBE, SHORT, []), going_on(MAYBE, SHORT, ["ok"])], [["q"], ["t"]])


class Between(unittest.TestCase):
    def test_orders(self):
        found = {}
        for rng in seeds(200):
            one, other = two_desks(rng)
            forth, back = stands_plainly(one, other), stands_plainly(other, one)
            told = {(True, True): "same", (True, False): "forth", (False, True): "back"}.get((forth, back), "apart")
            found[told] = found.get(told, 0) + 1
            self.assertEqual(order_between(one, other), told)
            self.assertIs(same_partners(one, other), told == "same")
        self.assertEqual(len(found), 4)
        self.assertGreater(min(found.values()), 5)

    def test_the_same_partners(self):
        same = 0
        for rng in seeds(100):
            one, other = two_desks(rng)
            partners = [[each for each in SMALL if end_well(desk, each)] for desk in (one, other)]
            if same_partners(one, other):
                same += has_partner(one)
                self.assertEqual(*partners)
            else:
                self.assertTrue(is_parting_partner(one, other, parting_partner(one, other)))
        self.assertGreater(same, 5)

    def test_parting_partners(self):
        right = 0
        for rng in seeds(100):
            one, other = two_desks(rng)
            given = parting_partner(one, other)
            self.assertEqual(given is None, same_partners(one, other))
            if given is not None:
                self.assertNotEqual(Plain(one, given).well, Plain(other, given).well)
                self.assertIs(is_parting_partner(one, other, given), True)
            for each in SMALL[::3] + positional_partners(one):
                told = end_well(one, each) != end_well(other, each)
                right += told
                self.assertIs(is_parting_partner(one, other, each), told)
        self.assertGreater(right, 40)

    def test_by_hand(self):
        self.assertEqual([order_between(loop(), QUIET), order_between(QUIET, loop()), order_between(MAYBE, SHORT)],
                         ["forth", "back", "same"])
        self.assertEqual([order_between(asker(), late()), order_between(NEVER, begun(MAYBE, "n"))], ["apart", "same"])
        self.assertEqual([order_between(NEVER, loop()), order_between(loop(), NEVER)], ["forth", "back"])
        self.assertEqual([parting_partner(MAYBE, SHORT), parting_partner(NEVER, begun(MAYBE, "n"))], [None, None])
        for thing in not_desks():
            self.assertIs(is_parting_partner(loop(), QUIET, thing), False)


def is_likeness_plainly(one, other, value):
    """What [53] says of an ascending list of tuples of a state of each."""
    if not has_partner(one) or not has_partner(other):
        return value == [] and has_partner(one) == has_partner(other)
    rows, others = said_rows(one.book()), said_rows(other.book())
    for first, second in value:
        (kind, turns), (another, goals) = rows[first], others[second]
        if kind != another or set(turns) != set(goals) or not all((turns[w], goals[w]) in value for w in turns):
            return False
    return (one.start(), other.start()) in value


def like_desks(rng):
    """Two desks, often with the same partners."""
    one = lively(rng)
    if rng.random() < 0.4:
        return one, near(rng, one)
    book = {**one.book(), "bad": ("says", {"x": "bad"})}
    for state in list(book):
        kind, turns = book[state]
        if kind == "hears" and rng.random() < 0.5:
            book[state] = (kind, {"z": "bad", **turns})
        elif rng.random() < 0.4:
            book["u" + state] = book[state]
            source = rng.choice(list(one.book()))
            book[source] = (book[source][0], {w: "u" + g if g == state else g for w, g in book[source][1].items()})
    return one, Desk(book, one.start())


class Likeness(unittest.TestCase):
    def test_exactly_if_they_have_the_same_partners(self):
        told = [0, 0]
        for rng in seeds(200):
            one, other = like_desks(rng)
            given = likeness(one, other)
            self.assertEqual(given is not None, stands_plainly(one, other) and stands_plainly(other, one))
            told[given is None] += has_partner(one)
            if given is not None:
                self.assertTrue(is_likeness_plainly(one, other, given))
                self.assertEqual(given, sorted(set(given)))
                self.assertIs(is_likeness(one, other, given), True)
        self.assertGreater(min(told), 30)

    def test_all_small_tables(self):
        right = 0
        for rng in seeds(150):
            one, other = like_desks(rng)
            pairs = [(first, second) for first in states_of(one) for second in states_of(other)]
            if len(pairs) > 9 or not has_partner(one):
                continue
            for value in (list(some) for many in range(len(pairs)) for some in itertools.combinations(pairs, many)):
                told = is_likeness_plainly(one, other, value)
                right += told
                self.assertIs(is_likeness(one, other, value), told)
        self.assertGreater(right, 15)

    def test_bent_in_one_place(self):
        for rng in seeds(100):
            one, other = like_desks(rng)
            given = likeness(one, other) or []
            pairs = [(first, second) for first in states_of(one) for second in states_of(other)]
            for pair in pairs:
                less, more = [each for each in given if each != pair], sorted(set(given + [pair]))
                self.assertIs(is_likeness(one, other, less), is_likeness_plainly(one, other, less))
                self.assertIs(is_likeness(one, other, more), is_likeness_plainly(one, other, more))

    def test_what_is_none(self):
        good = [("q", "q"), ("t", "t")]
        self.assertIs(is_likeness(MAYBE, SHORT, good), True)
        wrong = [good[::-1], good[:1], good[1:], good + [("t", "t")], [("q", "q"), ("q", "q"), ("t", "t")], tuple(good),
                 [["q", "q"], ["t", "t"]], good + ["tt"], [None] + good, good + [("zz", "t")], [("n", "q")] + good,
                 [("n", "t")] + good, good + [("t", "t", "t")], good + [("t", 1)], {("q", "q"): 0, ("t", "t"): 0},
                 good + [True]]
        for thing in junk() + wrong + [loop(), [loop()], (good,)]:
            self.assertIs(is_likeness(MAYBE, SHORT, thing), False, thing)
            self.assertIs(is_likeness(MAYBE, NEVER, thing), False, thing)
            self.assertIs(is_likeness(NEVER, MAYBE, thing), False, thing)
            self.assertIs(is_likeness(NEVER, NEVER, thing), isinstance(thing, list) and not thing, thing)
        self.assertEqual([likeness(NEVER, NEVER), likeness(NEVER, SHORT), likeness(SHORT, NEVER)], [[], None, None])
        self.assertIs(is_likeness(NEVER, NEVER, [("s", "s")]), False)

    def test_words_that_are_not_sayable_do_not_matter(self):
        self.assertEqual(likeness(MAYBE, SHORT), [("q", "q"), ("t", "t")])
        other = Desk({"q": ("hears", {"ok": "t", "x": "n"}), "n": ("hears", {"x": "n"}), "t": DONE}, "q")
        self.assertIs(is_likeness(MAYBE, other, [("q", "q"), ("t", "t")]), True)
        # of two states at which nothing is sayable nothing is asked either
        mute = Desk({"q": ("hears", {"ok": "t", "y": "m"}), "m": ("hears", {"y": "m"}), "t": DONE}, "q")
        self.assertIs(is_likeness(other, mute, [("n", "m"), ("q", "q"), ("t", "t")]), True)


def is_ring_plainly(desk, talk, ring):
    """What [54] says of a choice ring."""
    rows = said_rows(desk.book())
    start = walked(rows, desk.start(), talk)
    if start is None or not ring or walked(rows, start, ring) != start:
        return False
    along = [rows[walked(rows, start, ring[:many])] for many in range(len(ring))]
    return {"says", "hears"} == {kind for kind, turns in along if len(turns) > 1}


def is_split_plainly(desk, value):
    """What [54] says of a split."""
    rows = said_rows(desk.book())
    live = closed(rows, desk.start())
    if set(value) != live or any(value[goal] > value[state] for state in live for goal in rows[state][1].values()):
        return False
    wide = [(value[state], rows[state][0]) for state in live if len(rows[state][1]) > 1]
    return not [1 for count, kind in wide for other, another in wide if count == other and kind != another]


def viable_ringing(many):
    for rng in seeds(many):
        desk = ringing(rng)
        if has_partner(desk):
            yield rng, desk


class Testers(unittest.TestCase):
    def test_the_tester(self):
        for _, desk in viable_ringing(80):
            told = turned(spoken_desk(desk))
            given = tester(desk)
            names = {state: behind for state, behind in self.laid_on(given, told)}
            self.assertEqual((renamed(given, names), len(names)), (told, len(states_of(told))))

    def laid_on(self, one, other):
        """The states of two desks that are come to by the same talks."""
        pairs = [(one.start(), other.start())]
        for first, second in pairs:
            behind = {(one.book()[first][1][word], goal) for word, goal in other.book()[second][1].items()}
            pairs += sorted(behind - set(pairs))
        return pairs

    def test_whether_one_tells(self):
        told = [0, 0]
        for _, desk in viable_ringing(150):
            facing = tester(desk)
            fooling = [other for other in SMALL if end_well(facing, other) and not stands_plainly(desk, other)]
            told[one_tells(desk)] += 1
            self.assertFalse(one_tells(desk) and fooling)
            for other in SMALL[::7]:
                self.assertIs(is_fooling_desk(desk, other), other in fooling)
            for other in fooling:
                self.assertIs(is_fooling_desk(desk, other), True)
        self.assertGreater(min(told), 20)

    def test_exactly_if_there_is_a_split_and_no_choice_ring(self):
        for _, desk in viable_ringing(200):
            ring, split, fooling = choice_ring(desk), split_of(desk), fooling_desk(desk)
            told = [one_tells(desk), ring is None, split is not None, fooling is None]
            self.assertEqual(told, [told[0]] * 4)
            if ring is not None:
                self.assertTrue(is_ring_plainly(desk, *ring))
                self.assertIs(is_choice_ring(desk, ring), True)
                self.assertTrue(Plain(fooling, tester(desk)).well)
                self.assertFalse(stands_plainly(desk, fooling))
                self.assertIs(is_fooling_desk(desk, fooling), True)
            else:
                self.assertTrue(is_split_plainly(desk, split))
                self.assertIs(is_split(desk, split), True)

    def test_all_short_rings(self):
        right = 0
        for _, desk in viable_ringing(100):
            for talk in all_rows("xy", 2):
                for ring in all_rows("xy", 4):
                    told = is_ring_plainly(desk, talk, ring)
                    right += told
                    self.assertIs(is_choice_ring(desk, (talk, ring)), told)
        self.assertGreater(right, 100)

    def test_all_small_splits(self):
        right = 0
        for _, desk in viable_ringing(150):
            for value in dicts_over(states_of(desk), 2):
                told = is_split_plainly(desk, value)
                right += told
                self.assertIs(is_split(desk, value), told)
        self.assertGreater(right, 200)

    def test_splits_bent_in_one_place(self):
        for rng, desk in viable_ringing(100):
            for value in bent(rng, split_of(desk) or {}, states_of(desk)):
                self.assertIs(is_split(desk, value), is_split_plainly(desk, value))

    def test_one_that_ends_well_with_the_tester_is_never_stuck(self):
        """With any partner of the desk."""
        many = 0
        for rng, desk in viable_ringing(100):
            partners = positional_partners(desk)
            nearly = [near(rng, spoken_desk(desk)) for _ in range(8)]
            for other in [other for other in nearly + [fooling_desk(desk)] if other and end_well(tester(desk), other)]:
                many += 1
                for partner in partners:
                    plain = Plain(other, partner)
                    self.assertNotIn("stuck", [plain.kind[pair] for pair in plain.come])
        self.assertGreater(many, 100)

    def test_rings_by_hand(self):
        rings = [([], ["left", "on"]), ([], ["right", "on"]), (["left"], ["on", "left"]), ([], ["left", "on"] * 20),
                 (["left", "on"] * 20, ["left", "on", "right", "on"]), (["left"], ["on", "right", "on", "left"])]
        for ring in rings:
            self.assertIs(is_choice_ring(asker(), ring), True)
            self.assertIs(is_choice_ring(loop(), ring), False)
        wrong = [([], []), ([], ["left"]), (["left"], ["left", "on"]), (["end"], ["left", "on"]), ([], ["left", "end"]),
                 [[], ["left", "on"]], ([], ("left", "on")), ((), ["left", "on"]), ([], ["left", "on"], []),
                 (["left", "on"],),
                 ([], "left"), ([], None), (None, ["left", "on"]), ([], [["left"], ["on"]]), ([], ["left", 1]),
                 ([], [True])]
        for thing in junk() + wrong + [loop(), (loop(), loop()), {"talk": [], "round": ["left", "on"]}]:
            self.assertIs(is_choice_ring(asker(), thing), False, thing)
        for thing in not_talks():
            self.assertIs(is_choice_ring(asker(), ([], thing)), False, thing)
            self.assertIs(is_choice_ring(asker(), (thing, ["left", "on"])), False, thing)

    def test_rings_that_are_none(self):
        """Words that are not sayable are no choice, and a round past choices of one side alone is no choice ring."""
        book = {"s": ("hears", {"x": "u", "y": "n"}), "u": ("says", {"x": "s", "y": "t"}), "n": ("says", {"x": "n"}),
                "t": DONE}
        desk = Desk(book, "s")
        self.assertEqual([one_tells(desk), choice_ring(desk), fooling_desk(desk)], [True, None, None])
        self.assertIs(is_choice_ring(desk, ([], ["x", "x"])), False)
        self.assertIs(is_split(desk, {"s": 0, "u": 0, "t": 0}), True)
        self.assertIs(is_split(desk, {"s": 0, "u": 0, "t": 0, "n": 0}), False)
        near_end = Desk({"s": ("hears", {"left": "s", "right": "l"}), "l": ("says", {"on": "t", "off": "t"}),
                         "t": DONE}, "s")
        self.assertEqual([one_tells(near_end), choice_ring(near_end)], [True, None])
        self.assertIs(is_choice_ring(near_end, ([], ["left"])), False)

    def test_choices_one_behind_the_other(self):
        """Who chooses first does not matter if there is no way back; what is apart may have the same count or not."""
        book = {"a": ("says", {"x": "b", "y": "t"}), "b": ("hears", {"x": "t", "y": "u"}), "t": DONE, "u": DONE}
        for desk in (Desk(book, "a"), turned(Desk(book, "a"))):
            self.assertEqual([one_tells(desk), choice_ring(desk), fooling_desk(desk)], [True, None, None])
            self.assertIs(is_split(desk, split_of(desk)), True)
        apart = {"a": ("says", {"x": "u", "y": "v"}), "u": ("says", {"x": "t", "y": "t"}),
                 "v": ("hears", {"x": "t", "y": "t"})}
        desk = Desk({**apart, "t": DONE}, "a")
        self.assertIs(is_split(desk, split_of(desk)), True)
        for counts, told in (((2, 1, 0, 0), True), ((2, 0, 1, 0), True), ((2, 1, 1, 0), False), ((1, 1, 0, 0), True),
                             ((1, 0, 1, 0), False)):
            self.assertIs(is_split(desk, dict(zip("auvt", counts))), told)

    def test_a_ring_behind_a_talk(self):
        book = {**asker().book(), "p": ("says", {"go": "q", "no": "t"}), "q": ("hears", {"in": "s"})}
        desk = Desk(book, "p")
        talk, ring = choice_ring(desk)
        self.assertEqual(talk[:2], ["go", "in"])
        self.assertIs(is_choice_ring(desk, (["go", "in"], ["left", "on"])), True)
        self.assertIs(is_choice_ring(desk, ([], ["left", "on"])), False)
        self.assertIs(is_fooling_desk(desk, fooling_desk(desk)), True)

    def test_what_is_no_split_and_no_fooling_desk(self):
        good = {"s": 1, "t": 0}
        self.assertIs(is_split(loop(), good), True)
        wrong = [{"s": 1}, {**good, "zz": 0}, {"s": 0, "t": 1}, {"s": True, "t": 0}, {"s": 1, "t": False},
                 {"s": 1, "t": -1},
                 {"s": "1", "t": 0}, {"s": 1, "t": None}, {**good, None: 0}, {"s": [1], "t": 0}, [("s", 1), ("t", 0)],
                 ("s", "t")]
        for thing in junk() + wrong + [loop(), [good], (good,)]:
            self.assertIs(is_split(loop(), thing), False, thing)
        for thing in not_desks():
            self.assertIs(is_fooling_desk(asker(), thing), False, thing)
        self.assertIs(is_fooling_desk(asker(), asker()), False)
        self.assertIs(is_fooling_desk(asker(), NEVER), False)

    def test_hopeless_desks(self):
        for function in (tester, one_tells, fooling_desk, choice_ring, split_of):
            for desk in (NEVER, begun(MAYBE, "n")):
                with self.assertRaises(Hopeless) as caught:
                    function(desk)
                self.assertIs(caught.exception.value, desk)
        for function in (is_fooling_desk, is_choice_ring, is_split):
            for thing in (None, NEVER, ([], ["more"]), {"s": 0}):
                with self.assertRaises(Hopeless) as caught:
                    function(NEVER, thing)
                self.assertIs(caught.exception.value, NEVER)


class Least(unittest.TestCase):
    def test_no_smaller_desk_has_the_same_partners(self):
        less = 0
        for rng in seeds(100):
            desk = rng.choice(like_desks(rng))
            given = least_desk(desk)
            self.assertTrue(stands_plainly(desk, given) and stands_plainly(given, desk))
            self.assertIs(is_least_desk(desk, given), True)
            less += has_partner(desk) and len(states_of(given)) < len(come_to(desk))
            for other in SMALL:
                if len(states_of(other)) < len(states_of(given)):
                    self.assertIs(same_partners(desk, other), False)
        self.assertGreater(less, 5)

    def test_what_is_a_least_desk(self):
        right = 0
        for rng in seeds(60):
            desk = lively(rng)
            many = len(states_of(least_desk(desk)))
            for other in SMALL[::3] + [begun(desk, state) for state in states_of(desk)] + [least_desk(desk)]:
                told = len(states_of(other)) == many and same_partners(desk, other)
                right += told
                self.assertIs(is_least_desk(desk, other), told)
        self.assertGreater(right, 60)

    def test_two_of_a_viable_desk_are_the_same_but_for_names(self):
        for rng in seeds(80):
            one, other = like_desks(rng)
            if has_partner(one) and same_partners(one, other):
                first, second = least_desk(one), least_desk(other)
                names = dict(likeness(first, second))
                self.assertEqual(renamed(first, names), second)

    def test_by_hand(self):
        twice = Desk({"a": ("says", {"x": "b", "y": "c"}), "b": ("hears", {"x": "t", "z": "b"}),
                      "c": ("hears", {"x": "u", "z": "b"}),
                      "t": DONE, "u": DONE, "v": ("hears", {"x": "t"})}, "a")
        told = Desk({"a": ("says", {"x": "b", "y": "b"}), "b": ("hears", {"x": "t", "z": "b"}), "t": DONE}, "a")
        self.assertIs(is_least_desk(twice, told), True)
        self.assertIs(is_least_desk(twice, twice), False)
        self.assertEqual(len(states_of(least_desk(twice))), 3)
        self.assertEqual(likeness(least_desk(twice), told)[0][1], "a")
        # done and not done are told apart, and so are who says and who hears
        self.assertEqual([len(states_of(least_desk(desk))) for desk in (ways(), asker(), MAYBE, loop())], [3, 3, 2, 2])

    def test_one_that_has_no_partner(self):
        given = least_desk(begun(MAYBE, "n"))
        self.assertEqual(len(states_of(given)), 1)
        self.assertNotEqual(kind_of(given, given.start()), "done")
        for other in (given, NEVER, Desk({"h": ("hears", {"x": "h", "y": "h"})}, "h")):
            self.assertIs(is_least_desk(begun(MAYBE, "n"), other), True)
        for other in (Desk({"h": DONE}, "h"), begun(MAYBE, "n"), Desk({"s": ("says", {"more": "s"}), "t": DONE}, "s")):
            self.assertIs(is_least_desk(NEVER, other), False)
        for thing in not_desks():
            for desk in (NEVER, loop(), begun(loop(), "t")):
                self.assertIs(is_least_desk(desk, thing), thing is None and False)


def some_desks(rng):
    """A list of desks that often have a stand-in, and not all the same."""
    first = lively(rng, "ab")
    return [first] + [near(rng, first) if rng.random() < 0.8 else lively(rng, "ab") for _ in range(rng.randint(0, 3))]


class StandIns(unittest.TestCase):
    def test_stand_ins(self):
        told = [0, 0]
        for rng in seeds(250):
            desks = some_desks(rng)
            given = stand_in(desks)
            told[given is None] += 1
            standing = [other for other in SMALL if all(stands(desk, other) for desk in desks)]
            if given is None:
                self.assertEqual(standing, [])
                continue
            self.assertTrue(all(stands_plainly(desk, given) for desk in desks))
            self.assertTrue(all(stands(given, other) for other in standing))
            self.assertIs(is_stand_in(desks, given), True)
        self.assertGreater(min(told), 30)

    def test_none_is_left_out(self):
        """If some desk stands for all, one does that chooses its words by where they are; all of these are tried."""
        found = [0, 0]
        for rng in seeds(500):
            kinds = rng.choice([("says", "says", "hears"), ("says", "hears"), ("says",)])
            first = lively(rng, "abc", "xy", 2, kinds)
            desks = [desk for desk in [first] + [near(rng, first) for _ in range(rng.randint(1, 2))]
                     if has_partner(desk)]
            standing = positional_stand_ins(desks) if desks else None
            if standing is None:
                continue
            found[not standing] += 1
            given = stand_in(desks)
            self.assertEqual(given is None, not standing)
            for one in standing:
                self.assertTrue(stands_plainly(given, one))
                self.assertIs(is_stand_in(desks, one), stands_plainly(one, given))
        self.assertGreater(min(found), 30)

    def test_ends_that_are_kept_away_by_whoever_is_heard(self):
        """What all say leads round, and a partner of any one may choose to go round for ever."""
        book = {"a": ("says", {"x": "h", "y": "t"}), "h": ("hears", {"x": "a", "y": "t"}), "t": DONE}
        one, other = Desk(book, "a"), Desk({**book, "a": ("says", {"x": "h", "z": "t"})}, "a")
        self.assertIsNone(stand_in([one, other]))
        again = {**book, "h": ("hears", {"x": "b", "y": "t"}), "b": ("says", {"x": "h", "y": "t", "z": "a"})}
        rest = Desk({**again, "b": ("says", {"x": "h", "y": "t"})}, "a")
        self.assertIs(is_stand_in([Desk(again, "a"), rest], rest), True)
        self.assertIs(is_stand_in([Desk(again, "a"), rest], Desk(again, "a")), False)

    def test_what_is_a_stand_in(self):
        right = wrong = 0
        for rng in seeds(80):
            desks = some_desks(rng)
            standing = [other for other in SMALL + [stand_in(desks)] if other
                        and all(stands(desk, other) for desk in desks)]
            for other in SMALL[::3] + desks + standing[-1:]:
                told = all(stands(desk, other) for desk in desks) and all(stands(other, each) for each in standing)
                right += told
                wrong += not told
                self.assertIs(is_stand_in(desks, other), told)
        self.assertGreater(min(right, wrong), 100)

    def test_of_one_desk_alone(self):
        for rng in seeds(60):
            desk = lively(rng)
            self.assertIs(same_partners(desk, stand_in([desk])), True)
            self.assertIs(same_partners(desk, stand_in([desk, desk, desk])), True)
            self.assertIs(is_stand_in([desk], desk), True)

    def test_by_hand(self):
        red = Desk({"s": ("says", {"red": "t", "blue": "t"}), "t": DONE}, "s")
        green = Desk({"s": ("says", {"blue": "t", "green": "t"}), "t": DONE}, "s")
        blue = Desk({"s": ("says", {"blue": "t"}), "t": DONE}, "s")
        pink = Desk({"s": ("says", {"pink": "t"}), "t": DONE}, "s")
        self.assertEqual([is_stand_in([red, green], desk) for desk in (blue, red, green, pink)],
                         [True, False, False, False])
        self.assertEqual([stand_in([red, MAYBE]), stand_in([red, green, pink])], [None, None])
        self.assertIs(is_stand_in([red, green, pink], blue), False)
        self.assertIs(is_stand_in([red, NEVER], red), True)
        one = Desk({"h": ("hears", {"x": "t"}), "t": DONE}, "h")
        other = Desk({"h": ("hears", {"y": "t"}), "t": DONE}, "h")
        both = Desk({"h": ("hears", {"x": "t", "y": "t"}), "t": DONE}, "h")
        self.assertEqual([is_stand_in([one, other], desk) for desk in (both, one, other)], [True, False, False])

    def test_whoever_cannot_sit_there_any_more_asks_for_nothing(self):
        """Behind a word that no partner of the one says only the other one has to be stood for."""
        one = Desk({"h": ("hears", {"x": "a", "z": "n"}), "a": ("says", {"x": "t"}), "n": ("says", {"x": "n"}),
                    "t": DONE}, "h")
        other = Desk({"h": ("hears", {"y": "b", "z": "a"}), "b": ("hears", {"x": "t"}), "a": ("says", {"y": "t"}),
                      "t": DONE}, "h")
        told = Desk({"h": ("hears", {"x": "a", "y": "b", "z": "c"}), "a": ("says", {"x": "t"}),
                     "b": ("hears", {"x": "t"}),
                     "c": ("says", {"y": "t"}), "t": DONE}, "h")
        self.assertIs(is_stand_in([one, other], told), True)
        self.assertIs(same_partners(stand_in([one, other]), told), True)

    def test_a_word_less_that_keeps_the_end_away(self):
        """What all say need not be enough: then there is none."""
        out = Desk({"a": ("says", {"x": "a", "y": "t"}), "t": DONE}, "a")
        off = Desk({"a": ("says", {"x": "a", "z": "t"}), "t": DONE}, "a")
        self.assertIsNone(stand_in([out, off]))
        self.assertIs(is_stand_in([out, off], Desk({"a": ("says", {"x": "a"})}, "a")), False)
        both = Desk({"a": ("says", {"x": "a", "y": "t", "z": "t"}), "t": DONE}, "a")
        self.assertIs(is_stand_in([out, both], out), True)

    def test_all_are_not_viable(self):
        for desks in ([NEVER], [NEVER, begun(MAYBE, "n")]):
            self.assertIs(is_stand_in(desks, stand_in(desks)), True)
            for other in SMALL[::5]:
                self.assertIs(is_stand_in(desks, other), not has_partner(other))

    def test_what_is_none(self):
        for thing in not_desks():
            for desks in ([loop()], [NEVER], [loop(), SHORT]):
                self.assertIs(is_stand_in(desks, thing), False, thing)
