"""[37] to [42]: partners of a desk, held against answers that are found plainly."""

import itertools
import unittest

from endswell.desks import Desk, begun, come_to, states_of, trimmed
from endswell.errors import Hopeless
from endswell.facing import end_well
from endswell.partners import fitted, is_joined_partner, is_most_willing, is_partner_within, is_shy_partner
from endswell.partners import joined_partner, least_words, may_say, most_willing, needed_words, partner_within
from endswell.partners import shy_partner
from endswell.viable import has_partner, spoken_desk
from tests.helpers import Plain, all_rows, frozen, loop, not_desks, seeds
from tests.plain import DONE, SMALL, lively, positional_partners, said_rows


def asker():
    book = {"s": ("hears", {"left": "l", "right": "r"}), "l": ("says", {"on": "s", "end": "t"}),
            "r": ("says", {"on": "s"})}
    return Desk({**book, "t": DONE}, "s")


def hopeless():
    return Desk({"s": ("says", {"go": "n", "stop": "t"}), "n": ("says", {"sorry": "n"}), "t": DONE}, "s")


def viable_desks(many, names="abc"):
    """Plenty of desks that have partners."""
    for rng in seeds(many):
        desk = lively(rng, names)
        if has_partner(desk):
            yield rng, desk


def partners_of(desk, most=60):
    """Partners of many kinds, those of the small desks and those that say what they say state by state."""
    found = [other for other in SMALL if end_well(desk, other)]
    found += [other for other in positional_partners(desk) if other not in found]
    return found[::max(1, len(found) // most)]


def widened(rng, partner):
    """A partner with more: states that do not come, and words that are heard and never said."""
    book = {**partner.book(), "far": ("says", {"x": "far"}), "end": DONE}
    for state in list(book):
        kind, turns = book[state]
        if kind == "hears" and rng.random() < 0.7:
            book[state] = (kind, {"never": rng.choice(["far", "end"]), "x": "far", "y": "end", **turns})
    return Desk(book, partner.start())


def words_said(rows, state):
    return sorted(rows[state][1]) if rows[state][0] == "says" else []


def is_willing_plainly(desk, partner):
    """What [37] says of a partner."""
    plain, rows = Plain(desk, partner), said_rows(desk.book())
    hearing = [pair for pair in plain.come if plain.book[pair[0]][0] == "hears"]
    return plain.well and all(words_said(plain.face, own) == sorted(rows[state][1]) for state, own in hearing)


class MostWilling(unittest.TestCase):
    def test_what_is_returned(self):
        for _, desk in viable_desks(150, "abcd"):
            given = most_willing(desk)
            self.assertTrue(is_willing_plainly(desk, given))
            self.assertIs(is_most_willing(desk, given), True)

    def test_what_is_most_willing(self):
        right = wrong = 0
        for rng, desk in viable_desks(120):
            for partner in SMALL[::3] + positional_partners(desk) + [widened(rng, most_willing(desk))]:
                told = is_willing_plainly(desk, partner)
                right += told
                wrong += not told and end_well(desk, partner)
                self.assertIs(is_most_willing(desk, partner), told)
        self.assertGreater(min(right, wrong), 20)

    def test_every_partner_says_only_what_it_says_too(self):
        for _, desk in viable_desks(60):
            willing = most_willing(desk)
            for partner in partners_of(desk):
                plain, with_willing = Plain(desk, partner), Plain(desk, willing)
                for talk in all_rows("xy", 4):
                    if plain.behind(talk) is not None:
                        state, own = plain.behind(talk)
                        self.assertIsNotNone(with_willing.behind(talk))
                        said = words_said(willing.book(), with_willing.behind(talk)[1])
                        self.assertLessEqual(set(words_said(partner.book(), own)), set(said))

    def test_what_it_hears_besides_and_what_cannot_come_does_no_harm(self):
        both = {"a": ("says", {"left": "b", "right": "b"}), "b": ("hears", {"on": "a", "end": "c", "off": "a"}),
                "c": DONE}
        self.assertIs(is_most_willing(asker(), Desk(both, "a")), True)
        more = {**both, "d": ("says", {"left": "b"})}
        self.assertIs(is_most_willing(asker(), Desk(more, "a")), True)
        less = {**both, "b": ("hears", {"on": "d", "end": "c"}), "d": ("says", {"left": "b"})}
        self.assertIs(is_most_willing(asker(), Desk(less, "a")), False)
        self.assertIs(end_well(asker(), Desk(less, "a")), True)
        wide = {**both, "a": ("says", {"left": "b", "right": "b", "up": "b"})}
        self.assertIs(is_most_willing(asker(), Desk(wide, "a")), False)

    def test_of_a_desk_that_is_done(self):
        early = begun(asker(), "t")
        self.assertIs(is_most_willing(early, most_willing(early)), True)
        self.assertIs(is_most_willing(early, Desk({"z": DONE}, "z")), True)
        self.assertIs(is_most_willing(early, most_willing(asker())), False)


class Shy(unittest.TestCase):
    def test_what_is_returned(self):
        for _, desk in viable_desks(150, "abcd"):
            given = shy_partner(desk)
            self.assertTrue(Plain(desk, given).well)
            self.assertTrue(all(kind != "says" or len(turns) == 1 for kind, turns in given.book().values()))
            self.assertIs(is_shy_partner(desk, given), True)

    def test_what_is_shy(self):
        right = 0
        for _, desk in viable_desks(80):
            for other in SMALL + positional_partners(desk):
                told = all(kind != "says" or len(turns) == 1 for kind, turns in other.book().values())
                told = told and end_well(desk, other)
                right += told
                self.assertIs(is_shy_partner(desk, other), told)
        self.assertGreater(right, 50)

    def test_states_that_cannot_come_count_too(self):
        shy = {"a": ("says", {"left": "b"}), "b": ("hears", {"on": "a", "end": "c"}), "c": DONE}
        self.assertIs(is_shy_partner(asker(), Desk(shy, "a")), True)
        far = {**shy, "d": ("says", {"left": "b", "right": "b"})}
        self.assertIs(end_well(asker(), Desk(far, "a")), True)
        self.assertIs(is_shy_partner(asker(), Desk(far, "a")), False)
        self.assertIs(is_shy_partner(asker(), Desk({**shy, "d": ("hears", {"x": "b", "y": "b"})}, "a")), True)


class Within(unittest.TestCase):
    def test_partners_within_words(self):
        found = [0, 0]
        for rng in seeds(100):
            desk = lively(rng)
            partners = [trimmed(partner).book().values() for partner in positional_partners(desk, 1)]
            within = [{word for kind, turns in rows if kind == "says" for word in turns} for rows in partners]
            for words in ([], ["x"], ["y"], ["x", "y"], ["a", "y", "z"]):
                given = partner_within(desk, words)
                told = [said for said in within if said <= set(words)]
                found[given is None] += len(within) > 0
                self.assertEqual(given is None, not told)
                if given is not None:
                    self.assertTrue(Plain(desk, given).well)
                    self.assertIs(is_partner_within(desk, words, given), True)
        self.assertGreater(min(found), 50)

    def test_what_is_within(self):
        right = 0
        for rng in seeds(60):
            desk = lively(rng)
            for other in SMALL[::2] + positional_partners(desk):
                said = {word for kind, turns in other.book().values() if kind == "says" for word in turns}
                for words in ([], ["x"], ["y"], ["x", "y"], ["x", "y", "z"]):
                    told = end_well(desk, other) and said <= set(words)
                    right += told
                    self.assertIs(is_partner_within(desk, words, other), told)
        self.assertGreater(right, 50)

    def test_it_may_hear_any_word_and_say_none_elsewhere(self):
        only = {"a": ("says", {"left": "b"}), "b": ("hears", {"on": "a", "end": "c", "right": "a"}), "c": DONE}
        self.assertIs(is_partner_within(asker(), ["left"], Desk(only, "a")), True)
        self.assertIs(is_partner_within(asker(), ["left", "zz"], Desk(only, "a")), True)
        self.assertIs(is_partner_within(asker(), [], Desk(only, "a")), False)
        far = Desk({**only, "d": ("says", {"right": "a"})}, "a")
        self.assertIs(is_partner_within(asker(), ["left"], far), False)
        self.assertIs(is_partner_within(asker(), ["left", "right"], far), True)

    def test_a_desk_without_a_partner_has_none_within(self):
        self.assertIsNone(partner_within(hopeless(), ["go", "stop"]))
        self.assertIs(is_partner_within(hopeless(), [], Desk({"z": DONE}, "z")), False)

    def test_least_and_needed_words(self):
        kinds = set()
        for rng in seeds(250):
            desk = lively(rng, "abc", "xyz", 3)
            if not has_partner(desk):
                continue
            lists = [list(some) for many in range(4) for some in itertools.combinations("xyz", many)]
            within = [words for words in lists if partner_within(desk, words) is not None]
            least = sorted(words for words in within if not [one for one in within if set(one) < set(words)])
            self.assertEqual(least_words(desk), least)
            needed = [word for word in "xyz" if all(word in words for words in least)]
            self.assertEqual(needed_words(desk), needed)
            kinds.add((len(least), len(needed)))
        self.assertLessEqual({(1, 0), (1, 1), (2, 0), (1, 2)}, kinds)

    def test_least_words_by_hand(self):
        book = {"a": ("hears", {"u": "b", "v": "c"}), "b": ("hears", {"w": "t"}), "c": ("hears", {"u": "t", "w": "t"})}
        desk = Desk({**book, "t": DONE}, "a")
        self.assertEqual([least_words(desk), needed_words(desk)], [[["u", "v"], ["u", "w"], ["v", "w"]], []])
        book["d"] = ("says", {"u": "a", "x": "e"})
        book["e"] = ("hears", {"w": "t", "y": "e"})
        desk = Desk({**book, "t": DONE}, "d")
        self.assertEqual([least_words(desk), needed_words(desk)], [[["u", "w"], ["v", "w"]], ["w"]])
        self.assertEqual([least_words(loop()), needed_words(loop())], [[[]], []])
        trap = {"a": ("hears", {"u": "n", "v": "t"}), "n": ("says", {"x": "n"}), "t": DONE}
        self.assertEqual([least_words(Desk(trap, "a")), needed_words(Desk(trap, "a"))], [[["v"]], ["v"]])


class MaySay(unittest.TestCase):
    def test_what_some_partner_says(self):
        for _, desk in viable_desks(60):
            partners = [Plain(desk, partner) for partner in partners_of(desk, 30) + positional_partners(desk)]
            for talk in all_rows("xy", 4) + [["never"]]:
                having = [plain for plain in partners if plain.behind(talk) is not None]
                said = sorted({word for plain in having for word in words_said(plain.face, plain.behind(talk)[1])})
                self.assertEqual(may_say(desk, talk), said if having else None)

    def test_by_hand(self):
        trap = Desk({"h": ("hears", {"ok": "t", "no": "n"}), "n": ("says", {"x": "n"}), "t": DONE}, "h")
        told = [may_say(trap, talk) for talk in ([], ["ok"], ["no"], ["no", "x"], ["ok", "ok"])]
        self.assertEqual(told, [["ok"], [], None, None, None])
        self.assertEqual([may_say(loop(), talk) for talk in ([], ["more"] * 40, ["stop"])], [[], [], []])

    def test_each_call_returns_a_new_list(self):
        given = may_say(asker(), [])
        given.append("spoilt")
        self.assertEqual(may_say(asker(), []), ["left", "right"])


def is_joined_plainly(desk, one, other, value):
    """What [41] says: talk by talk, each set of states only once."""
    if not Plain(desk, value).well:
        return False
    books = [thing.book() for thing in (desk, value, one, other)]
    layer = [tuple(thing.start() for thing in (desk, value, one, other))]
    seen = set(layer)
    for state, own, first, second in layer:
        said = set(words_said(books[1], own))
        told = set(words_said(books[2], first) if first else []) | set(words_said(books[3], second) if second else [])
        if books[0][state][0] == "hears" and said != told:
            return False
        for word in said if books[0][state][0] == "hears" else books[0][state][1]:
            behind = tuple(each and books[at][each][1].get(word) for at, each in enumerate((state, own, first, second)))
            if behind not in seen:
                seen.add(behind)
                layer.append(behind)
    return True


class Joined(unittest.TestCase):
    def test_joined_partners(self):
        for rng, desk in viable_desks(60):
            partners = partners_of(desk, 25)
            for _ in range(8):
                one, other = rng.choice(partners), rng.choice(partners)
                given = joined_partner(desk, one, other)
                self.assertTrue(is_joined_plainly(desk, one, other, given))
                self.assertIs(is_joined_partner(desk, one, other, given), True)
                self.assertIs(is_joined_partner(desk, other, one, given), True)

    def test_what_is_a_joined_partner(self):
        right = wrong = 0
        for rng, desk in viable_desks(60):
            partners = partners_of(desk, 25)
            for _ in range(6):
                one, other = rng.choice(partners), rng.choice(partners)
                for value in partners + SMALL[::25]:
                    told = is_joined_plainly(desk, one, other, value)
                    right += told
                    wrong += not told
                    self.assertIs(is_joined_partner(desk, one, other, value), told)
        self.assertGreater(min(right, wrong), 200)

    def test_the_most_willing_is_all_partners_joined(self):
        for rng, desk in viable_desks(40):
            joined = shy_partner(desk)
            for partner in positional_partners(desk):
                joined = fitted(desk, joined_partner(desk, joined, partner))
            self.assertIs(is_most_willing(desk, joined), True)
            self.assertIs(is_joined_partner(desk, joined, shy_partner(desk), most_willing(desk)), True)

    def test_one_that_cannot_have_the_talk_says_none(self):
        book = {"s": ("hears", {"x": "u", "y": "v"}), "u": ("hears", {"x": "t", "y": "t"}),
                "v": ("hears", {"x": "t", "y": "t"})}
        desk = Desk({**book, "t": DONE}, "s")
        one = Desk({"a": ("says", {"x": "b"}), "b": ("says", {"x": "c"}), "c": DONE}, "a")
        other = Desk({"a": ("says", {"y": "b"}), "b": ("says", {"y": "c"}), "c": DONE}, "a")
        right = Desk({"a": ("says", {"x": "b", "y": "d"}), "b": ("says", {"x": "c"}), "d": ("says", {"y": "c"}),
                      "c": DONE}, "a")
        self.assertIs(is_joined_partner(desk, one, other, right), True)
        much = Desk({"a": ("says", {"x": "b", "y": "b"}), "b": ("says", {"x": "c", "y": "c"}), "c": DONE}, "a")
        self.assertIs(end_well(desk, much), True)
        self.assertIs(is_joined_partner(desk, one, other, much), False)
        self.assertIs(is_joined_partner(desk, one, much, much), True)
        given = joined_partner(desk, one, other)
        self.assertEqual([may_say(given, talk) for talk in ([], ["x"])], [[], []])
        self.assertEqual(spoken_desk(given).book(), given.book())

    def test_what_is_none(self):
        one = shy_partner(asker())
        for thing in not_desks():
            for judge in (is_most_willing, is_shy_partner):
                self.assertIs(judge(asker(), thing), False)
            self.assertIs(is_joined_partner(asker(), one, one, thing), False)
            self.assertIs(is_partner_within(asker(), ["left", "right"], thing), False)


class Fitted(unittest.TestCase):
    def test_fitted_partners(self):
        less = 0
        for rng, desk in viable_desks(80):
            for partner in partners_of(desk, 15) + [widened(rng, partner) for partner in partners_of(desk, 15)]:
                plain = Plain(desk, partner)
                book = {}
                for state, own in plain.come:
                    kind, turns = plain.face[own]
                    said = book.setdefault(own, (kind, {}))[1]
                    said.update({w: turns[w] for w in turns if kind == "says" or w in plain.book[state][1]})
                told = Desk(book, partner.start())
                less += told != partner
                given = fitted(desk, partner)
                self.assertEqual(frozen(given), frozen(told))
                self.assertTrue(Plain(desk, given).well)
                self.assertIs(is_joined_partner(desk, partner, partner, given), True)
        self.assertGreater(less, 30)

    def test_what_is_taken_out(self):
        wide = {"a": ("says", {"left": "b", "right": "d"}), "b": ("hears", {"on": "a", "end": "c", "off": "x"}),
                "c": DONE}
        wide.update({"d": ("hears", {"on": "a", "end": "c"}), "x": DONE, "y": ("says", {"left": "y"})})
        given = fitted(asker(), Desk(wide, "a"))
        told = {"a": wide["a"], "b": ("hears", {"on": "a", "end": "c"}), "c": DONE, "d": ("hears", {"on": "a"})}
        self.assertEqual(given, Desk(told, "a"))
        self.assertEqual(fitted(asker(), given), given)

    def test_the_partner_itself_stays_as_it_was(self):
        partner = Desk({"a": ("says", {"left": "b"}), "b": ("hears", {"on": "a", "end": "c", "x": "a"}), "c": DONE,
                        "d": DONE}, "a")
        before = frozen(partner)
        fitted(asker(), partner)
        self.assertEqual(frozen(partner), before)


class NoPartner(unittest.TestCase):
    def test_hopeless_desks_are_told_behind_wrong_ones_and_ahead_of_all_else(self):
        calls = [(most_willing, ()), (shy_partner, ()), (least_words, ()), (needed_words, ()),
                 (is_most_willing, (None,)),
                 (is_shy_partner, (None,)), (may_say, ([],)), (may_say, (None,)), (fitted, (None,)),
                 (joined_partner, (None, None)), (is_joined_partner, (None, None, None))]
        for desk in (hopeless(), Desk({"s": ("says", {"x": "s"})}, "s")):
            for function, others in calls:
                with self.assertRaises(Hopeless) as caught:
                    function(desk, *others)
                self.assertIs(caught.exception.value, desk)

    def test_a_state_that_cannot_be_come_to_does_not_matter(self):
        desk = begun(hopeless(), "t")
        self.assertEqual(states_of(desk), ["n", "s", "t"])
        self.assertEqual(come_to(most_willing(desk)), ["t"])
        self.assertEqual([may_say(desk, []), least_words(desk)], [[], [[]]])
