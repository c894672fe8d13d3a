"""[1] and the interface: each name stands in its file, with its arguments."""

import importlib
import inspect
import unittest

from endswell.desks import Desk
from tests.helpers import loop

ROWS = {
    "endswell.desks": """is_word(value), is_book(value), states_of(desk), kind_of(desk, state), turns_of(desk, state),
        words_of(desk), changed(desk, change), changed_by(desk, changes), come_to(desk), trimmed(desk), turned(desk),
        renamed(desk, names), begun(desk, state)""",
    "endswell.talks": """is_talk(value), state_behind(desk, talk), turns_behind(desk, talk), spoken(desk, talk),
        is_whole(desk, talk), shortest_whole(desk), is_shortest_whole(desk, value), longest_whole(desk),
        is_longest_whole(desk, value), many_talks(desk, size), many_whole(desk, size), whole_at(desk, size, number),
        whole_place(desk, talk)""",
    "endswell.facing": """pair_kind(one, other, pair), next_pairs(one, other, pair), pairs_come(one, other),
        talk_to(one, other, pair), is_talk_to(one, other, pair, value), pair_behind(one, other, talk),
        end_well(one, other), ways_out(one, other), are_ways_out(one, other, value), way_out(one, other, pair),
        is_way_out(one, other, pair, value), farthest(one, other), farthest_pairs(one, other), bad_talk(one, other),
        is_bad_talk(one, other, value), first_stuck(one, other), is_first_stuck(one, other, value),
        never_stuck(one, other), ended_talks(one, other, size), ended_talk(one, other, size, number),
        ended_place(one, other, talk)""",
}


def listed():
    """Tuples of a module, a name in it and the list of its arguments."""
    for module, row in ROWS.items():
        for call in row.replace("\n", " ").split("),"):
            name, arguments = call.strip().rstrip(")").split("(")
            yield module, name, arguments.split(", ")


class TheInterface(unittest.TestCase):
    def test_functions_stand_in_their_files_with_their_arguments(self):
        many = 0
        for module, name, arguments in listed():
            function = getattr(importlib.import_module(module), name)
            self.assertTrue(inspect.isfunction(function), name)
            self.assertEqual((function.__module__, function.__name__), (module, name))
            self.assertEqual(list(inspect.signature(function).parameters), arguments, name)
            many += 1
        self.assertEqual(many, 13 + 13 + 21)

    def test_the_desk_defines_its_own_methods(self):
        self.assertEqual(Desk.__module__, "endswell.desks")
        self.assertEqual(list(inspect.signature(Desk).parameters), ["book", "start"])
        for name in ("book", "start", "__eq__", "__init__"):
            self.assertIn(name, vars(Desk))

    def test_arguments_may_be_passed_by_name(self):
        desk = loop()
        valid = {
            "desk": desk, "state": "s", "change": ("begin", "t"), "changes": [], "names": {"s": "a", "t": "b"},
            "talk": ["stop"], "size": 1, "number": 0, "one": desk, "pair": ("s", "p"), "value": ["stop"],
            "other": Desk({"p": ("hears", {"more": "p", "stop": "q"}), "q": ("done", {})}, "p"),
        }
        for module, name, arguments in listed():
            function = getattr(importlib.import_module(module), name)
            by_name = function(**{argument: valid[argument] for argument in reversed(arguments)})
            self.assertEqual(by_name, function(*[valid[argument] for argument in arguments]), name)
        self.assertEqual(Desk(start="t", book=desk.book()), Desk(desk.book(), "t"))
