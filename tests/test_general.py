"""[2] and [3]: what holds for all functions, and great desks."""

import inspect
import unittest

from endswell import desks, facing, forcing, joining, lines, lots, orders, papers, partners, scripts, stands, stuckless
from endswell import talks, viable
from endswell.desks import Desk, changed, come_to, renamed, states_of, trimmed, turned
from endswell.errors import DeskError
from endswell.facing import are_ways_out, bad_talk, end_well, ended_place, ended_talk, ended_talks, farthest
from endswell.facing import farthest_pairs, first_stuck, is_bad_talk, is_first_stuck, is_talk_to, is_way_out
from endswell.facing import never_stuck, pair_behind, pairs_come, talk_to, way_out, ways_out
from endswell.hall import Hall
from endswell.talks import is_longest_whole, is_shortest_whole, longest_whole, many_talks, many_whole, shortest_whole
from endswell.orders import choice_ring, fooling_desk, going_on, is_choice_ring, is_fooling_desk, is_least_desk
from endswell.orders import is_likeness, is_split, is_stand_in, least_desk, likeness, one_tells, split_of, stand_in
from endswell.partners import fitted, is_joined_partner, is_most_willing, is_shy_partner, joined_partner, may_say
from endswell.partners import most_willing, needed_words, shy_partner
from endswell.stands import common_pairs, is_levels_table, is_losing_talk, is_lost_set, is_spoiler, least_levels
from endswell.stands import losing_talk, lost_set, spoiler
from endswell.talks import state_behind, whole_at, whole_place
from endswell.viable import ending_talk, fewest_words, has_partner, is_ending_talk, is_level_paper, is_rank_paper
from endswell.viable import level_paper, rank_paper, spoken_desk, viable_states
from tests.helpers import frozen, random_desk, random_two, seeds, shuffled_book, spoil
from tests.plain import lively, near
from tests.test_interface import listed

DONE = ("done", {})
MODULES = {module.__name__: module for module in (desks, talks, facing, viable, partners, stands, orders, stuckless,
                                                  lots, joining, forcing, lines, papers, scripts)}
# what plays on halls is looked at in the tests of the hall and of scripts
FUNCTIONS = [(getattr(MODULES[module], name), arguments) for module, name, arguments in listed()
             if name not in ("play", "replayed")]
BOOLEAN = ["end_well", "never_stuck", "is_whole", "has_partner", "have_common", "stands", "stands_within",
           "same_partners", "one_tells", "stands_in", "forces", "leads_all", "ends_everywhere",
           "end_well_over"]


def arguments_for(rng):
    """Two desks, and things of all kinds that go with them, most of them right."""
    one, other = random_two(rng)
    words = [rng.choice(["no", "x", "yes"]) for _ in range(rng.randint(0, 3))]
    state, goal = rng.choice(states_of(one)), rng.choice(states_of(one))
    pairs = [(a, b) for a in states_of(one) for b in states_of(other)]
    row = ("says", {"x": state, "no": "new"})
    return {
        "desk": one, "one": one, "other": other, "state": state, "talk": words, "size": rng.randint(0, 3), "number": 0,
        "pair": rng.choice(pairs), "change": rng.choice([("put", "new", row), ("add", state, "other", goal)]),
        "changes": [("put", "new", row), ("begin", "new"), ("drop", "new", "no")],
        "names": {name: name + "z" for name in states_of(one)},
        "value": rng.choice([words, (words, pairs), {pair: rng.randint(0, 2) for pair in pairs}, one.book(), "word",
                             other,
                             {name: rng.randint(0, 2) for name in states_of(one)}, (other, words), (words, words),
                             pairs]),
        "desks": [one, lively(rng), near(rng, one)][:rng.randint(1, 3)], "words": ["no", "yes"][rng.randint(0, 1):],
        "elder": one, "newer": near(rng, one), "partner": other, "first": one, "second": other,
        "arms": {"x": one, "no": other}, "again": "on", "enough": "off", "most_rounds": rng.randint(0, 2),
        "frame": rng.choice([None, ("then", None, one), ("heard rounds", ("says", {"x": None, "no": one}), "on", "off"),
                             ("hears", {"yes": ("said rounds", None, "x", "no"), "no": other})]),
        "lot": [], "most": rng.randint(1, 2), "scene": rng.choice(pairs) + (("x",), ()), "script": script_for(rng),
        "deeds": rng.choice([[], [("one", "puts", "x"), ("other", "takes", "x")], [("one", "takes", "no")]]),
        "levels": rng.choice([{"t": 1, "s": 2}, {("t", "s"): 0, ("s", "t"): 3}]),
    }


def script_for(rng):
    """A script with a try, and perhaps with what is refused."""
    desk = lively(rng)
    script = [("seat", desk, turned(desk)), ("go_on", 0, rng.choice("xy")), ("states", 0, near(rng, desk)), ("turn", 0)]
    return script + [("try", [("words", 0), ("undo",)]), ("exchange", 0, near(rng, desk), "a"), ("ends", 0)]


def text_for(name, rng):
    """A text that a reader reads."""
    desk = lively(rng)
    return {"read_desk": papers.desk_text(desk), "read_desks": papers.desks_text([desk, near(rng, desk)]),
            "read_change": rng.choice(["put u says x s y u", "out s", "add s x t"]), "read_talk": "x yes x",
            "read_levels": rng.choice(["s = 0\nt = 2", "s t = 4"]),
            "read_script": scripts.script_text(script_for(rng))}.get(name)


def values_for(function, arguments, given, rng):
    """What a function is called with; the partners of a desk are such ones, if it has any."""
    desk = lively(rng)
    if function.__module__ == "endswell.lots":
        lot = [word for word in lots.said_words(desk) if rng.random() < 0.3]
        changes = [("drop", "a", "x"), ("add", "a", "zz", "t"), ("begin", "t"), ("drop", "a", "y")]
        of_desk = {"desk": desk, "lot": lot, "changes": changes, "value": rng.choice([lot, lots.heard_words(desk)[:1]])}
        if function.__name__ == "lot_desk":
            of_desk["lot"] = [at for at in range(4) if rng.random() < 0.5]
        return [of_desk[argument] for argument in arguments]
    if function.__module__ != "endswell.partners":
        text = text_for(function.__name__, rng)
        return [text if argument == "text" else given[argument] for argument in arguments]
    some = [turned(desk)] + ([most_willing(desk), shy_partner(desk)] if has_partner(desk) else [])
    of_desk = {**given, "desk": desk, "one": rng.choice(some), "other": rng.choice(some), "partner": some[-1]}
    return [of_desk[argument] for argument in arguments]


def outcome(function, values):
    """What a call returns, or the error that it raises with its field."""
    try:
        return function(*values)
    except DeskError as error:
        return (error.__class__.__name__, getattr(error, "value", None))


def is_error(result):
    """Whether an outcome is an error that was raised."""
    return isinstance(result, tuple) and len(result) > 0 and str(result[0]).startswith(("Invalid", "Hopeless"))


class AllFunctions(unittest.TestCase):
    def each(self, many):
        for rng in seeds(many):
            given = arguments_for(rng)
            for function, arguments in FUNCTIONS:
                yield rng, function, values_for(function, arguments, given, rng)

    def test_arguments_stay_as_they_were(self):
        for _, function, values in self.each(60):
            before = frozen(values)
            outcome(function, values)
            self.assertEqual(frozen(values), before, function)

    def test_equal_calls_return_equal_results(self):
        for rng, function, values in self.each(60):
            first = frozen(outcome(function, values))
            self.assertEqual(frozen(outcome(function, values)), first, function)
            others = [self.anew(rng, value) for value in values]
            if function.__name__ not in ("is_book", "is_word"):
                given, again = outcome(function, values), outcome(function, others)
                self.assertEqual(frozen(self.told(again)), frozen(self.told(given)), function)

    def anew(self, rng, value):
        """An equal object whose dictionaries stand in another order."""
        if isinstance(value, Desk):
            return Desk(shuffled_book(rng, value.book()), value.start())
        if isinstance(value, dict):
            return {key: value[key] for key in rng.sample(list(value), len(value))}
        if isinstance(value, list) and value and isinstance(value[0], Desk):
            return [self.anew(rng, each) for each in value]
        if isinstance(value, tuple):
            return tuple(self.anew(rng, each) for each in value)
        return list(value) if isinstance(value, list) else value

    def told(self, result):
        """A result without the field of an error, which is the argument itself."""
        return result[0] if is_error(result) else result

    def test_results_are_new(self):
        for _, function, values in self.each(60):
            first = outcome(function, values)
            if is_error(first):
                continue
            before, held = frozen(first), frozen(values)
            spoil(first.book() if isinstance(first, Desk) else first)
            self.assertEqual(frozen(values), held, function)
            self.assertEqual(frozen(outcome(function, values)), before, function)

    def test_what_was_passed_may_change_later(self):
        for rng in seeds(60):
            given = arguments_for(rng)
            results = [(outcome(function, values_for(function, arguments, given, rng)), function)
                       for function, arguments in FUNCTIONS]
            results = [(result, frozen(result)) for result, _ in results
                       if not is_error(result)]
            desk = frozen(given["desk"])
            for thing in given.values():
                spoil(thing)
            self.assertEqual(frozen(given["desk"]), desk)
            for result, before in results:
                self.assertEqual(frozen(result), before)

    def test_questions_in_other_orders_between_commands_on_halls(self):
        for rng in seeds(25):
            given = arguments_for(rng)
            questions = [(function, values_for(function, arguments, given, rng)) for function, arguments in FUNCTIONS]
            answers = [frozen(self.told(outcome(*question))) for question in questions]
            hall, both = Hall(), list(zip(questions, answers))
            rng.shuffle(both)
            for (function, values), answer in both:
                some = [value for value in values if isinstance(value, Desk)]
                outcome(hall.seat, [lively(rng), turned(lively(rng))])
                outcome(hall.seat, [some[0], turned(some[0])] if some else [None, None])
                for place in hall.places()[-1:]:
                    outcome(hall.go_on, [place, rng.choice(["no", "x", "yes"])])
                    outcome(hall.exchange, [place, near(rng, some[0]), some[0].start()] if some else [place, None, None])
                    outcome(rng.choice([hall.undo, hall.redo, hall.log]), [])
                self.assertEqual(frozen(self.told(outcome(function, values))), answer, function)

    def test_some_return_true_or_false(self):
        for _, function, values in self.each(30):
            name = function.__name__
            if name.startswith(("is_", "are_")) or name in BOOLEAN:
                result = outcome(function, values)
                self.assertTrue(is_error(result) or frozen(result) in ("True", "False"), function)

    def test_none_is_never_such_a_thing(self):
        for _, function, values in self.each(30):
            # but for the place of a frame, [73]
            if inspect.signature(function).parameters.get("value") and function.__name__ != "is_frame":
                result = outcome(function, values[:-1] + [None])
                self.assertTrue(is_error(result) or result is False, function)


class WhatIsReturnedIsPassedAgain(unittest.TestCase):
    def test_with_one_thing_more_or_less(self):
        for rng in seeds(60):
            one, other = random_two(rng)
            desk = random_desk(rng)
            for make, judge, args in (
                (shortest_whole, is_shortest_whole, (desk,)), (longest_whole, is_longest_whole, (desk,)),
                (first_stuck, is_first_stuck, (one, other)),
            ):
                talk = make(*args)
                if talk is not None:
                    self.assertIs(judge(*args, talk), True)
                    self.assertIs(judge(*args, talk + ["x"]), False)
                    self.assertIs(judge(*args, talk[:-1]), talk == [])
            ways = ways_out(one, other)
            for pair in ways or {}:
                self.assertIs(are_ways_out(one, other, ways), True)
                self.assertIs(are_ways_out(one, other, {key: ways[key] for key in ways if key != pair}), False)
                self.assertIs(are_ways_out(one, other, {**ways, ("zz", "zz"): 1}), False)

    def test_papers_and_tables_with_one_thing_more_or_less(self):
        for rng in seeds(60):
            desk = lively(rng)
            newer = near(rng, desk)
            for given, judge, args in (
                (rank_paper(desk, desk.start()), is_rank_paper, (desk, desk.start())),
                (level_paper(desk, desk.start()), is_level_paper, (desk, desk.start())),
                (least_levels(desk, newer), is_levels_table, (desk, newer)),
                (lost_set(desk, newer), is_lost_set, (desk, newer)),
            ):
                if given is None:
                    continue
                self.assertIs(judge(*args, given), True)
                for key in ("zz", ("zz", "zz"), None):
                    self.assertIs(judge(*args, {**given, key: 1}), False)
                for key in given:
                    self.assertIs(judge(*args, {**given, key: True}), False)
                    self.assertIn(judge(*args, {other: given[other] for other in given if other != key}), (True, False))


LETTERS = "abcdefghijklmnopqrstuvwxyz"


def name_of(number):
    return LETTERS[number // 26 % 26] + LETTERS[number % 26]


def ring(kind, many, leave=None):
    """A desk of so many states that goes round by the word "on"; behind the state `leave` it ends by "off"."""
    book = {name_of(at): (kind, {"on": name_of((at + 1) % many)}) for at in range(many)}
    if leave is not None:
        book[name_of(leave)] = (kind, {"on": name_of((leave + 1) % many), "off": "done"})
        book["done"] = DONE
    return Desk(book, name_of(0))


class GreatDesks(unittest.TestCase):
    def test_a_long_row(self):
        many = 150
        book = {name_of(at): ("says", {"on": name_of(at + 1)}) for at in range(many - 1)}
        desk = Desk({**book, name_of(many - 1): DONE}, name_of(0))
        talk = ["on"] * (many - 1)
        self.assertEqual([shortest_whole(desk), longest_whole(desk)], [talk, talk])
        self.assertIs(is_shortest_whole(desk, talk), True)
        self.assertIs(is_longest_whole(desk, talk), True)
        self.assertIs(is_longest_whole(desk, talk + ["on"]), False)
        self.assertIs(is_longest_whole(desk, talk[1:]), False)
        self.assertEqual([many_whole(desk, many - 1), many_talks(desk, 40), whole_place(desk, talk)], [1, 1, 0])
        self.assertEqual(whole_at(desk, many - 1, 0), talk)
        self.assertEqual(len(come_to(desk)), many)
        self.assertEqual(end_well(desk, turned(desk)), True)
        self.assertEqual(farthest(desk, turned(desk)), many - 1)
        self.assertEqual(state_behind(desk, talk), name_of(many - 1))

    def test_a_row_of_diamonds(self):
        leaps = {"x": 1, "y": 1, "zz": 2}
        book = {name_of(at): ("hears", {w: name_of(at + leap) for w, leap in leaps.items()}) for at in range(148)}
        desk = Desk({**book, name_of(148): DONE, name_of(149): DONE}, name_of(0))
        self.assertEqual(len(longest_whole(desk)), 148)
        self.assertIs(is_longest_whole(desk, longest_whole(desk)), True)
        self.assertEqual(shortest_whole(desk), ["zz"] * 74)
        self.assertEqual([many_whole(desk, 73), many_whole(desk, 74), many_whole(desk, 75)], [0, 1, 11248])
        self.assertEqual(many_whole(desk, 148), 2 ** 148 + 2 ** 147)

    def test_two_great_rings(self):
        one, other = ring("says", 149), ring("hears", 150)
        self.assertEqual(len(pairs_come(one, other)), 149 * 150)
        self.assertIs(never_stuck(one, other), True)
        self.assertIs(end_well(one, other), False)
        bad = bad_talk(one, other)
        self.assertEqual((bad[0], len(bad[1])), ([], 149 * 150))
        self.assertIs(is_bad_talk(one, other, bad), True)
        self.assertIs(is_bad_talk(one, other, (bad[0], bad[1][1:])), False)
        last = (name_of(148), name_of(149))
        talk = talk_to(one, other, last)
        self.assertEqual(talk, ["on"] * (149 * 150 - 1))
        self.assertIs(is_talk_to(one, other, last, talk), True)
        self.assertEqual(pair_behind(one, other, talk), last)

    def test_a_way_out_of_two_great_rings(self):
        one, other = ring("says", 147, 146), ring("hears", 149)
        book = {s: (k, {**t, "off": "done"} if k == "hears" else t) for s, (k, t) in other.book().items()}
        other = Desk({**book, "done": DONE}, other.start())
        self.assertIs(end_well(one, other), True)
        ways = ways_out(one, other)
        self.assertEqual(len(ways), 147 * 149 + 1)
        self.assertIs(are_ways_out(one, other, ways), True)
        self.assertEqual(farthest(one, other), 147)
        self.assertEqual(len(farthest_pairs(one, other)), 149)
        first = (one.start(), other.start())
        self.assertEqual(way_out(one, other, first), ["on"] * 146 + ["off"])
        self.assertIs(is_way_out(one, other, first, ["on"] * 146 + ["off"]), True)
        self.assertEqual([ended_talks(one, other, 40), ended_talks(one, other, 147)], [0, 1])
        self.assertEqual(ended_talk(one, other, 147, 0), ["on"] * 146 + ["off"])
        self.assertEqual(ended_place(one, other, ["on"] * 146 + ["off"]), 0)

    def test_made_anew_of_the_book_and_the_start(self):
        desk = ring("says", 150)
        again = Desk(desk.book(), desk.start())
        self.assertEqual(again, desk)
        self.assertEqual(trimmed(again), desk)
        names = {state: "x" + state for state in states_of(desk)}
        self.assertEqual(renamed(again, names).start(), "xaa")
        more = changed(again, ("put", "done", DONE))
        more = changed(more, ("add", "aa", "off", "done"))
        self.assertEqual(len(states_of(more)), 151)
        self.assertEqual(shortest_whole(more), ["off"])


def exits(many, leaves, kind="says"):
    """A ring of so many states that ends by "off" from some of them."""
    book = {name_of(at): (kind, {"on": name_of((at + 1) % many)}) for at in range(many)}
    for at in leaves:
        book[name_of(at)][1]["off"] = "done"
    return Desk({**book, "done": DONE}, name_of(0))


def ladder(many):
    """A desk of so many states that says and hears in turn, and goes back by many ways."""
    book = {name_of(many - 1): DONE}
    for at in range(many - 1):
        turns = {"on": name_of(at + 1), "back": name_of(max(0, at - 1)), "home": name_of(0), "half": name_of(at // 2)}
        book[name_of(at)] = ("hears" if at % 2 else "says", turns)
    return Desk(book, name_of(0))


class GreatDesksHeldAgainstOthers(unittest.TestCase):
    def test_partners_of_a_great_desk(self):
        desk = ladder(150)
        self.assertEqual([len(viable_states(desk)), fewest_words(desk, "aa"), len(rank_paper(desk, "aa"))],
                         [150, 149, 150])
        self.assertIs(is_ending_talk(desk, "aa", ending_talk(desk, "aa")), True)
        self.assertIs(is_rank_paper(desk, "aa", rank_paper(desk, "aa")), True)
        willing, shy = most_willing(desk), shy_partner(desk)
        self.assertEqual([is_most_willing(desk, one) for one in (willing, shy)], [True, False])
        self.assertEqual([is_shy_partner(desk, one) for one in (willing, shy)], [False, True])
        joined = joined_partner(desk, willing, shy)
        self.assertIs(is_joined_partner(desk, willing, shy, joined), True)
        self.assertIs(is_most_willing(desk, joined), True)
        self.assertEqual([fitted(desk, willing), needed_words(desk)], [willing, ["on"]])
        self.assertEqual(may_say(desk, ["on"]), ["back", "half", "home", "on"])
        self.assertEqual(len(states_of(spoken_desk(desk))), 150)

    def test_a_great_desk_that_is_not_viable(self):
        book = {name_of(at): ("says", {"on": name_of(at + 1), "out": "done"}) for at in range(148)}
        desk = Desk({**book, name_of(148): ("says", {"on": name_of(148)}), "done": DONE}, name_of(0))
        paper = level_paper(desk, name_of(0))
        self.assertEqual(max(paper.values()), 148)
        self.assertIs(is_level_paper(desk, name_of(0), paper), True)
        self.assertEqual(viable_states(desk), ["done"])

    def test_great_rings_with_many_levels(self):
        elder, newer = exits(147, range(147)), exits(149, [148])
        levels = least_levels(elder, newer)
        self.assertEqual([len(levels), max(levels.values()), len(common_pairs(elder, newer))],
                         [147 * 149 + 1, 149, 147 * 149 + 1])
        self.assertIs(is_levels_table(elder, newer, levels), True)
        self.assertEqual(len(going_on(elder, newer, ["on"])), 149)
        first = (elder.start(), newer.start())
        self.assertIs(is_levels_table(elder, newer, {**levels, first: levels[first] - 1}), False)

    def test_a_great_ring_that_is_never_left(self):
        elder, newer = exits(147, [0, 50]), exits(149, [])
        lost = lost_set(elder, newer)
        self.assertEqual([len(lost), losing_talk(elder, newer)], [147 * 149, []])
        self.assertIs(is_lost_set(elder, newer, lost), True)
        self.assertIs(is_losing_talk(elder, newer, []), True)
        given = spoiler(elder, newer)
        self.assertIs(is_spoiler(elder, newer, given), True)

    def test_the_order_of_great_desks(self):
        desk = ladder(150)
        ring, fooling = choice_ring(desk), fooling_desk(desk)
        self.assertEqual([one_tells(desk), is_choice_ring(desk, ring), is_fooling_desk(desk, fooling)],
                         [False, True, True])
        self.assertIs(is_likeness(desk, desk, likeness(desk, desk)), True)
        self.assertIs(is_least_desk(desk, least_desk(desk)), True)
        self.assertIs(is_stand_in([desk, desk], stand_in([desk, desk])), True)
        says = exits(149, range(0, 149, 2))
        split = split_of(says)
        self.assertEqual([len(split), is_split(says, split), one_tells(says)], [150, True, True])
        self.assertEqual(len(states_of(least_desk(exits(148, range(0, 148, 2))))), 3)

    def test_great_rings_of_unlike_sizes_have_a_small_stand_in(self):
        desks = [exits(many, range(many)) for many in (149, 148, 147, 145)]
        given = stand_in(desks)
        self.assertLess(len(states_of(given)), 5)
        self.assertIs(is_stand_in(desks, given), True)
        self.assertIs(is_stand_in(desks, desks[0]), True)
        self.assertIs(is_stand_in(desks, exits(149, [148])), False)
