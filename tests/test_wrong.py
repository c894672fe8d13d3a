"""Wrong arguments of sections 6 to 13: the first wrong one is told, with the very object."""

import importlib
import unittest

from endswell.desks import Desk
from endswell.errors import Hopeless, InvalidArms, InvalidChanges, InvalidCount, InvalidDesk, InvalidDesks, InvalidFrame
from endswell.errors import InvalidLot, InvalidPartner, InvalidState, InvalidTalk, InvalidWord, InvalidWords
from tests.helpers import frozen, junk, loop, not_counts, not_desks, not_states, not_talks
from tests.plain import DONE
from tests.test_interface import listed

ERRORS = {
    "desk": InvalidDesk, "elder": InvalidDesk, "newer": InvalidDesk, "one": InvalidDesk, "other": InvalidDesk,
    "desks": InvalidDesks, "state": InvalidState, "words": InvalidWords, "talk": InvalidTalk, "partner": InvalidPartner,
    "first": InvalidDesk, "second": InvalidDesk, "lot": InvalidLot, "changes": InvalidChanges, "arms": InvalidArms,
    "frame": InvalidFrame, "again": InvalidWord, "enough": InvalidWord, "most_rounds": InvalidCount,
}
NEVER = Desk({"s": ("says", {"more": "s"})}, "s")
NEED_A_PARTNER = """spoken_desk most_willing is_most_willing shy_partner is_shy_partner least_words needed_words may_say
    joined_partner is_joined_partner fitted tester one_tells fooling_desk is_fooling_desk choice_ring is_choice_ring
    split_of is_split""".split()


def friend():
    return Desk({"p": ("hears", {"more": "p", "stop": "q"}), "q": DONE}, "p")


def not_lists_of_desks():
    wrong = [[], [loop(), None], (loop(),), (), [(loop(),)], [[loop()]], {"a": loop()}, [loop().book()], ["s"],
             [loop(), 1], [NEVER, friend(), True], [None, loop()], loop()]
    return junk() + wrong


def not_words():
    return not_talks() + [["b", "a"], ["a", "a"], ["a", "c", "b"], ["a", "b", "b"], ("a", "b"), {"a": 1, "b": 2}]


def not_partners():
    """No partners of the loop."""
    return not_desks() + [loop(), NEVER, Desk({"z": DONE}, "z"), Desk({"p": ("hears", {"more": "p"})}, "p"),
                          Desk({"p": ("hears", {"more": "p", "stop": "p"})}, "p"), [friend()], (friend(),)]


def not_lots():
    return [thing for thing in junk() if thing != []] + [
        [("s", "never")], [["s", "stop"]], (("s", "stop"),), [("s", "stop"), ("s", "more")], [True], [7], (0,), [0, 0],
        [("s", "more"), ("s", "more")], {("s", "stop"): 1}, [("s", True)], [(["s"], "more")], loop()]


def not_changes():
    return [thing for thing in junk() if thing != []] + [
        ("begin", "t"), [("begin",)], [["begin", "t"]], (("begin", "t"),), [("begin", True)], {("begin", "t"): 1},
        loop()]


def not_arms():
    return junk() + [{"x": None}, {"X": loop()}, {True: loop()}, [("x", loop())], {"x": [loop()]}, loop()]


def not_frames():
    return [thing for thing in junk() if thing is not None] + [
        loop(), ("then", None, None), ["then", None, loop()], ("says", {}), ("says", {"x": None, "y": None}), (None,),
        ("said rounds", None, "x", "x"), ("heard rounds", None, True, "x"), ("then", None, loop(), loop())]


def not_one_word():
    return [thing for thing in junk() if thing != "s"] + [["s"], ("s",), "S", loop()]


def wrong_for(module, argument):
    """The error for an argument, and objects that are wrong for it."""
    if module == "endswell.partners" and argument in ("one", "other", "partner"):
        return InvalidPartner, not_partners()
    wrong = {InvalidDesk: not_desks, InvalidDesks: not_lists_of_desks, InvalidState: not_states,
             InvalidWords: not_words, InvalidTalk: not_talks, InvalidLot: not_lots, InvalidChanges: not_changes,
             InvalidArms: not_arms, InvalidFrame: not_frames, InvalidWord: not_one_word, InvalidCount: not_counts}
    return ERRORS[argument], wrong[ERRORS[argument]]()


def right_for(module, argument):
    if module == "endswell.partners" and argument in ("one", "other", "partner"):
        return friend()
    right = {"desks": [loop(), loop()], "state": "s", "words": ["more", "stop"], "talk": ["stop"], "lot": [],
             "changes": [("begin", "t")], "arms": {"x": loop()}, "frame": None, "again": "on", "enough": "off",
             "most_rounds": 2}
    return right.get(argument, loop())


def functions():
    for module, name, arguments in listed():
        # the tests of the other modules look at wrong arguments themselves
        if module.split(".")[1] in ("viable", "partners", "stands", "orders", "stuckless", "lots", "joining",
                                    "forcing"):
            yield module, getattr(importlib.import_module(module), name), arguments


class WrongArguments(unittest.TestCase):
    def check(self, error, value, function, arguments):
        before = frozen(arguments)
        with self.assertRaises(error) as caught:
            function(*arguments)
        self.assertIs(caught.exception.value, value, function)
        self.assertIs(type(caught.exception), error)
        self.assertEqual(frozen(arguments), before)

    def test_the_first_wrong_one_is_told(self):
        many = 0
        for module, function, arguments in functions():
            right = [right_for(module, argument) for argument in arguments]
            function(*right)
            for at, argument in enumerate(arguments):
                if argument == "value":
                    continue
                error, wrong = wrong_for(module, argument)
                for thing in wrong:
                    many += 1
                    self.check(error, thing, function, right[:at] + [thing] + right[at + 1:])
                    self.check(error, thing, function, right[:at] + [thing] + [None] * (len(right) - at - 1))
        self.assertGreater(many, 3000)

    def test_hopeless_desks_come_ahead_of_what_follows(self):
        told = []
        for module, function, arguments in functions():
            if arguments[0] == "desk" and function.__name__ in NEED_A_PARTNER:
                told.append(function.__name__)
                desk = Desk(NEVER.book(), "s")
                right = [right_for(module, argument) for argument in arguments[1:]]
                self.check(Hopeless, desk, function, [desk] + right)
                self.check(Hopeless, desk, function, [desk] + [None] * len(right))
        self.assertEqual(sorted(told), sorted(NEED_A_PARTNER))

    def test_all_others_take_desks_without_a_partner(self):
        for module, function, arguments in functions():
            # a desk that never ends has no waist at which it could be cut
            if function.__name__ not in NEED_A_PARTNER + ["cut_at"]:
                right = [right_for(module, argument) for argument in arguments]
                hopeless = [NEVER if isinstance(thing, Desk) else thing for thing in right]
                instead = {"talk": ["more"], "desks": [NEVER], "arms": {"x": NEVER}}
                hopeless = [instead.get(argument, thing) for argument, thing in zip(arguments, hopeless)]
                function(*hopeless)

    def test_a_talk_that_the_elder_desk_has_not(self):
        going_on = importlib.import_module("endswell.orders").going_on
        for talk in (["never"], ["stop", "stop"], ["more", "stop", "more"]):
            self.check(InvalidTalk, talk, going_on, [loop(), friend(), talk])

    def test_a_talk_that_no_partner_can_have_is_a_talk(self):
        may_say = importlib.import_module("endswell.partners").may_say
        self.assertIsNone(may_say(loop(), ["never"]))

    def test_states_of_another_desk(self):
        viable = importlib.import_module("endswell.viable")
        for function in (viable.rank_paper, viable.level_paper, viable.sayable_words, viable.fewest_words,
                         viable.ending_talk):
            for state in ("p", "q", "stop"):
                self.check(InvalidState, state, function, [loop(), state])
                self.assertIsNotNone([function(loop(), each) for each in "st"])
