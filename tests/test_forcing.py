"""[78] to [82]: who brings the end about, held against answers that are found plainly."""

import itertools
import unittest

from endswell.desks import Desk, begun, changed, states_of, turned
from endswell.forcing import delaying_partner, ending_partner, ends_everywhere, ends_with_all, ends_with_some
from endswell.forcing import forced_pairs, forces, forcing_plan, holding_off, is_delaying_partner, is_ending_partner
from endswell.forcing import is_forcing_plan, is_holding_off, leads_all, led_pairs, who_ends
from endswell.lots import live_states
from endswell.partners import most_willing
from endswell.stands import least_levels, stands
from endswell.viable import has_partner
from tests.helpers import Plain, junk, loop, not_desks, not_pairs, random_two, seeds
from tests.plain import DONE, SMALL, PlainHeld, lively, near, positional_partners, two_desks

HEARER = Desk({"h": ("hears", {"more": "h", "stop": "d"}), "d": DONE}, "h")
NEVER = Desk({"s": ("says", {"more": "s"})}, "s")


def forced_plainly(plain):
    """The pairs that can come and that the one desk forces within some number of words, with the least such number."""
    found = {}
    for many in range(len(plain.pairs) + 1):
        for pair in [pair for pair in plain.come if pair not in found]:
            nexts = [found.get(later, many) < many for later in plain.nexts[pair].values()]
            speaks = plain.book[pair[0]][0] == "says"
            if plain.kind[pair] == "ended" or nexts and (any(nexts) if speaks else all(nexts)):
                found[pair] = many
    return found


def two_going_round(rng):
    """Two desks of which each one often goes round and seldom comes to the end, perhaps past a dead end."""
    states = "abcd"
    book = {state: (rng.choice(["says", "hears"]), {word: rng.choice("aabbcdt" + "n" * (at % 2)) for word in "xy"})
            for at, state in enumerate(states)}
    desk = Desk({**book, "n": ("says", {"x": "n"}), "t": DONE}, "a")
    return desk, turned(desk)


def two_facing(rng):
    """Two desks that often end well, and of which the one often forces."""
    if rng.random() < 0.2:
        return random_two(rng)
    if rng.random() < 0.3:
        return two_going_round(rng)
    desk = lively(rng, kinds=rng.choice([("says",), ("says", "hears"), ("hears",)]))
    partners = [turned(desk)] + positional_partners(desk)[:8]
    other = rng.choice(partners)
    return desk, near(rng, other) if rng.random() < 0.3 else other


def facing(many):
    for rng in seeds(many):
        one, other = two_facing(rng)
        yield rng, one, other, Plain(one, other)


class Forced(unittest.TestCase):
    def test_forced_pairs(self):
        told = [0, 0]
        for _, one, other, plain in facing(400):
            right = forced_plainly(plain)
            told[plain.first in right] += 1
            given = forced_pairs(one, other)
            self.assertEqual(list(given.items()), sorted(right.items()))
            self.assertIs(forces(one, other), plain.first in right)
        self.assertGreater(min(told), 80)

    def test_a_pair_that_cannot_come_is_not_told(self):
        one = Desk({"a": ("says", {"x": "a"}), "b": ("says", {"x": "t"}), "t": DONE}, "a")
        self.assertEqual([forced_pairs(one, turned(one)), forced_pairs(begun(one, "b"), turned(begun(one, "b")))],
                         [{}, {("b", "b"): 1, ("t", "t"): 0}])

    def test_the_greatest_number_counts_where_the_other_one_says(self):
        book = {"a": ("hears", {"x": "t", "y": "b"}), "b": ("says", {"x": "c", "y": "a"}), "c": ("says", {"x": "t"}),
                "t": DONE}
        one = Desk(book, "a")
        self.assertEqual(forced_pairs(one, turned(one)), {("a", "a"): 3, ("b", "b"): 2, ("c", "c"): 1, ("t", "t"): 0})
        self.assertEqual(forced_pairs(turned(one), one), {("a", "a"): 1, ("b", "b"): 2, ("c", "c"): 1, ("t", "t"): 0})


def is_plan_plainly(plain, plan):
    """What [79] says: no row of words that keeps to the plan is stuck, leaves it, or comes to a pair twice."""
    rows = [[plain.first]]
    while rows:
        row = rows.pop()
        pair = row[-1]
        if plain.kind[pair] == "ended":
            continue
        nexts = plain.nexts[pair]
        if plain.book[pair[0]][0] == "says" and plain.kind[pair] == "goes on":
            nexts = {word: nexts[word] for word in nexts if plan.get(pair) == word}
        if not nexts or set(nexts.values()) & set(row):
            return False
        rows += [row + [later] for later in nexts.values()]
    return True


def words_by_plan(plain, plan, pair):
    """The greatest number of words that come behind a pair, if the one desk keeps to a plan."""
    nexts = plain.nexts[pair]
    if pair in plan:
        nexts = {plan[pair]: nexts[plan[pair]]}
    return max([1 + words_by_plan(plain, plan, later) for later in nexts.values()], default=0)


class Plans(unittest.TestCase):
    def test_the_pairs_of_a_plan_are_ascending(self):
        book = {"a": ("hears", {"x": "c", "y": "b"}), "b": ("says", {"x": "t"}), "c": ("says", {"y": "t"}), "t": DONE}
        one = Desk(book, "a")
        self.assertEqual(list(forcing_plan(one, turned(one)).items()), [(("b", "b"), "x"), (("c", "c"), "y")])

    def test_what_is_returned(self):
        told = [0, 0]
        for _, one, other, plain in facing(300):
            right, given = forced_plainly(plain), forcing_plan(one, other)
            told[given is None] += 1
            self.assertEqual(given is None, plain.first not in right)
            if given is None:
                continue
            self.assertTrue(is_plan_plainly(plain, given))
            self.assertIs(is_forcing_plan(one, other, given), True)
            self.assertEqual(list(given), sorted(given))
            come = [plain.first]
            for pair in come:
                nexts = plain.nexts[pair]
                come += [later for word, later in nexts.items() if later not in come and given.get(pair, word) == word]
            self.assertEqual(set(given), {pair for pair in come if plain.book[pair[0]][0] == "says"})
            for pair in given:
                self.assertEqual(words_by_plan(plain, given, pair), right[pair])
        self.assertGreater(min(told), 60)

    def test_all_plans_of_few_pairs(self):
        told, not_least = [0, 0], 0
        for _, one, other, plain in facing(300):
            own = [pair for pair in plain.come if plain.book[pair[0]][0] == "says"]
            lists = [[None, "zz"] + sorted(plain.book[pair[0]][1]) for pair in own]
            for words in itertools.islice(itertools.product(*lists), 200):
                plan = {pair: word for pair, word in zip(own, words) if word is not None}
                right = is_plan_plainly(plain, plan)
                told[right] += 1
                self.assertIs(is_forcing_plan(one, other, plan), right)
                not_least += right and words_by_plan(plain, plan, plain.first) > forced_plainly(plain)[plain.first]
        self.assertGreater(min(told), 60)
        self.assertGreater(not_least, 5)

    def test_with_any_pairs_more(self):
        many = 0
        for _, one, other, plain in facing(150):
            given = forcing_plan(one, other)
            if given is None:
                continue
            for pair in plain.pairs:
                if pair not in given:
                    many += 1
                    self.assertIs(is_forcing_plan(one, other, {**given, pair: "never"}), True)
                else:
                    self.assertIs(is_forcing_plan(one, other, {key: given[key] for key in given if key != pair}), False)
            for key in ("zz", ("zz", "zz"), None, 1, (plain.first,), plain.first + ("zz",)):
                self.assertIs(is_forcing_plan(one, other, {**given, key: "x"}), False)
            for word in (None, True, 1, "X", ["x"], ("x",), "", {}):
                self.assertIs(is_forcing_plan(one, other, {**given, plain.first: word}), False)
        self.assertGreater(many, 100)

    def test_an_ended_first_pair(self):
        done = Desk({"z": DONE}, "z")
        self.assertEqual([forcing_plan(done, done), is_forcing_plan(done, done, {}), forces(done, done)],
                         [{}, True, True])
        self.assertEqual([forcing_plan(HEARER, turned(begun(HEARER, "d"))), who_ends(done, loop())], [None, "never"])

    def test_wrong_plans(self):
        wrong = [[("s", "h"), "stop"], [("s", "h")], (("s", "h"), "stop"), {("h", "s"): "stop"}, {"s": "stop"},
                 {("s", "h"): "stop", ("s", "zz"): "x"}, {("s", "h"): ("stop",)}, loop()]
        self.assertIs(is_forcing_plan(loop(), HEARER, {("s", "h"): "stop"}), True)
        for value in junk() + wrong:
            self.assertIs(is_forcing_plan(loop(), HEARER, value), False, value)


def holds_off_plainly(plain, pairs):
    """What [80] says of a list of pairs that can come, ascending."""
    for pair in pairs:
        inside = [later in pairs for later in plain.nexts[pair].values()]
        if plain.kind[pair] == "ended":
            return False
        if plain.kind[pair] == "goes on" and not (all if plain.book[pair[0]][0] == "says" else any)(inside):
            return False
    return plain.first in pairs


class HoldingOff(unittest.TestCase):
    def test_all_lists(self):
        told = [0, 0]
        for _, one, other, plain in facing(250):
            lists = [list(pairs) for many in range(len(plain.come) + 1)
                     for pairs in itertools.combinations(plain.come, many)] if len(plain.come) < 7 else []
            right = [pairs for pairs in lists if holds_off_plainly(plain, pairs)]
            for pairs in lists:
                self.assertIs(is_holding_off(one, other, pairs), pairs in right)
            told = [told[0] + len(lists) - len(right), told[1] + len(right)]
            given = holding_off(one, other)
            self.assertEqual(given is None, forces(one, other))
            if lists:
                self.assertEqual(given, max(right, key=len, default=None))
            if given is not None:
                self.assertEqual(given, [pair for pair in plain.come if pair not in forced_plainly(plain)])
                self.assertIs(is_holding_off(one, other, given), True)
                self.assertIs(is_holding_off(one, other, given[::-1]), len(given) == 1)
                self.assertIs(is_holding_off(one, other, given + given[-1:]), False)
        self.assertGreater(min(told), 60)

    def test_pairs_that_cannot_come(self):
        one = Desk({"a": ("says", {"x": "a"}), "b": ("says", {"x": "b"}), "t": DONE}, "a")
        self.assertEqual([is_holding_off(one, turned(one), pairs) for pairs in
                          ([("a", "a")], [("a", "a"), ("b", "b")], [("a", "a"), ("a", "b")])], [True, False, False])

    def test_wrong_lists(self):
        wrong = [(("h", "s"),), {("h", "s"): 0}, [["h", "s"]], [("s", "h")], ("h", "s"), [("h", "s", "s")], ["h", "s"],
                 [("h", "s"), None], [("h", "s"), ("h", "s")], [("h", "s"), ("d", "t")], loop(), [[("h", "s")]]]
        self.assertIs(is_holding_off(HEARER, loop(), [("h", "s")]), True)
        for value in junk() + wrong + [[thing] for thing in not_pairs() if thing != ("h", "s")]:
            self.assertIs(is_holding_off(HEARER, loop(), value), False, value)


class WhoEnds(unittest.TestCase):
    def test_who_ends(self):
        found = []
        for _, one, other, plain in facing(1000):
            back = Plain(other, one)
            both = (plain.first in forced_plainly(plain), back.first in forced_plainly(back))
            names = {(True, True): "either", (True, False): "one", (False, True): "other"}
            ended = [pair for pair in plain.come if plain.kind[pair] == "ended"]
            right = names.get(both) or ("together" if plain.well else "perhaps" if ended else "never")
            found.append(right)
            self.assertEqual(who_ends(one, other), right)
        told = [found.count(name) for name in ("either", "one", "other", "together", "perhaps", "never")]
        self.assertGreater(min(told), 9, told)


class WithPartners(unittest.TestCase):
    def test_with_all_and_with_some(self):
        told = [0, 0, 0, 0]
        for rng in seeds(300):
            desk = lively(rng)
            partners = positional_partners(desk)
            forced = [forced_plainly(plain).get(plain.first) for plain in [Plain(desk, each) for each in partners]]
            led = [forced_plainly(plain).get(plain.first) for plain in [Plain(each, desk) for each in partners]]
            least = min([many for many in led if many is not None], default=None)
            greatest = None if not forced or None in forced else max(forced)
            told[0] += greatest is None
            told[1] += greatest is not None
            told[2] += least is None
            told[3] += least is not None
            self.assertEqual([ends_with_all(desk), ends_with_some(desk)], [greatest, least])
            if partners:
                plain = Plain(desk, most_willing(desk))
                self.assertEqual(forced_plainly(plain).get(plain.first), greatest)
        self.assertGreater(min(told), 50)

    def test_ending_partners(self):
        for rng in seeds(250):
            desk = lively(rng)
            given, least = ending_partner(desk), ends_with_some(desk)
            self.assertEqual(given is None, least is None)
            if given is not None:
                plain = Plain(given, desk)
                self.assertTrue(plain.well)
                self.assertEqual(forced_plainly(plain)[plain.first], least)
                self.assertIs(is_ending_partner(desk, given), True)
            for other in positional_partners(desk)[:9] + SMALL[::97]:
                plain = Plain(other, desk)
                self.assertIs(is_ending_partner(desk, other), plain.well and plain.first in forced_plainly(plain))

    def test_delaying_partners(self):
        told = [0, 0]
        for rng in seeds(350):
            desk = lively(rng)
            given = delaying_partner(desk)
            told[given is None] += 1
            self.assertEqual(given is None, ends_with_all(desk) is not None or not has_partner(desk))
            if given is not None:
                plain = Plain(desk, given)
                self.assertTrue(plain.well and plain.first not in forced_plainly(plain))
                self.assertIs(is_delaying_partner(desk, given), True)
            for other in positional_partners(desk)[:9] + SMALL[::97]:
                plain = Plain(desk, other)
                self.assertIs(is_delaying_partner(desk, other), plain.well and plain.first not in forced_plainly(plain))
        self.assertGreater(min(told), 30)

    def test_no_partner_at_all(self):
        self.assertEqual([ends_with_all(NEVER), ends_with_some(NEVER), ending_partner(NEVER), delaying_partner(NEVER),
                          ends_everywhere(NEVER)], [None, None, None, None, False])
        self.assertEqual([is_delaying_partner(NEVER, turned(NEVER)), is_ending_partner(NEVER, turned(NEVER))],
                         [False, False])

    def test_wrong_partners(self):
        for value in not_desks() + [NEVER]:
            self.assertIs(is_ending_partner(HEARER, value), False)
            self.assertIs(is_delaying_partner(HEARER, value), False)

    def test_whoever_leads_the_elder_one_leads_the_newer_one(self):
        many = 0
        for rng in seeds(300):
            elder, newer = two_desks(rng)
            if stands(elder, newer) and ends_with_some(elder) is not None:
                many += 1
                self.assertLessEqual(ends_with_some(newer), ends_with_some(elder))
        self.assertGreater(many, 40)


def led_plainly(held):
    """What [82] says of the pairs of [44]."""
    found = {}
    for many in range(len(held.pairs) + 1 if held.viable else 0):
        for pair in [pair for pair in held.pairs if pair not in found and held.matched(pair)]:
            (kind, _), _ = held.rows(pair)
            nexts = [found.get(later, many) < many for later in held.steps(pair).values()]
            if kind == "done" or nexts and (any(nexts) if kind == "says" else all(nexts)):
                found[pair] = many
    return found


class Led(unittest.TestCase):
    def test_led_pairs(self):
        told = [0, 0]
        for rng in seeds(400):
            elder, newer = two_desks(rng)
            held = PlainHeld(elder, newer)
            right = led_plainly(held)
            given = led_pairs(elder, newer)
            self.assertEqual(list(given.items()), sorted(right.items()))
            all_led = held.viable and set(right) == set(held.pairs)
            told[all_led] += 1
            self.assertIs(leads_all(elder, newer), all_led)
            if all_led:
                self.assertIs(stands(elder, newer), True)
        self.assertGreater(min(told), 50)

    def test_if_the_elder_one_ends_everywhere(self):
        many = 0
        for rng in seeds(300):
            elder, newer = two_desks(rng)
            if ends_everywhere(elder):
                many += stands(elder, newer)
                self.assertIs(stands(elder, newer), leads_all(elder, newer))
                if stands(elder, newer):
                    self.assertEqual(set(led_pairs(elder, newer)), set(least_levels(elder, newer)))
        self.assertGreater(many, 40)

    def test_ends_everywhere(self):
        told = [0, 0]
        for rng in seeds(300):
            desk = lively(rng)
            right = has_partner(desk) and all(ends_with_all(begun(desk, state)) is not None
                                              for state in live_states(desk))
            told[right] += 1
            self.assertIs(ends_everywhere(desk), right)
        self.assertGreater(min(told), 50)

    def test_an_end_from_the_start_alone_is_not_passed_on(self):
        desk = Desk({"s": ("says", {"stop": "t", "ask": "h"}), "h": ("hears", {"more": "h", "end": "t"}), "t": DONE},
                    "s")
        newer = changed(desk, ("drop", "s", "stop"))
        self.assertEqual([ends_with_all(desk), ends_with_all(newer), stands(desk, newer), ends_everywhere(desk)],
                         [1, None, True, False])
        self.assertEqual([led_pairs(desk, newer), leads_all(desk, newer)], [{("t", "t"): 0}, False])

    def test_an_elder_desk_that_is_not_viable(self):
        self.assertEqual([led_pairs(NEVER, loop()), leads_all(NEVER, loop()), leads_all(NEVER, NEVER)],
                         [{}, False, False])


class GreatDesks(unittest.TestCase):
    def test_a_long_row(self):
        names = [chr(97 + at // 26) + chr(97 + at % 26) for at in range(150)]
        book = {names[at]: ("says" if at % 3 else "hears", {"on": names[at + 1], "back": names[max(at - 1, 0)]})
                for at in range(149)}
        desk = Desk({**book, names[149]: DONE}, names[0])
        self.assertEqual([ends_with_all(desk), ends_with_some(desk), ends_everywhere(desk)], [None, None, False])
        self.assertIs(is_delaying_partner(desk, delaying_partner(desk)), True)
        says = Desk({state: ("says", turns) if turns else DONE for state, (_, turns) in desk.book().items()}, names[0])
        self.assertEqual([ends_with_all(says), len(forced_pairs(says, turned(says))), len(led_pairs(says, says))],
                         [149, 150, 150])
        plan = forcing_plan(says, turned(says))
        self.assertEqual([len(plan), is_forcing_plan(says, turned(says), plan)], [149, True])
        self.assertEqual(len(states_of(ending_partner(turned(says)))), 150)
        self.assertEqual(len(holding_off(turned(says), says)), 149)
