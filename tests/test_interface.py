"""[1] and the interface: each name stands in its file, with its arguments."""

import importlib
import inspect
import unittest

from endswell.desks import Desk
from endswell.hall import Hall
from tests.helpers import loop

ROWS = {
    "endswell.desks": """is_word(value), is_book(value), states_of(desk), kind_of(desk, state), turns_of(desk, state),
        words_of(desk), changed(desk, change), changed_by(desk, changes), come_to(desk), trimmed(desk), turned(desk),
        renamed(desk, names), begun(desk, state)""",
    "endswell.talks": """is_talk(value), state_behind(desk, talk), turns_behind(desk, talk), spoken(desk, talk),
        is_whole(desk, talk), shortest_whole(desk), is_shortest_whole(desk, value), longest_whole(desk),
        is_longest_whole(desk, value), many_talks(desk, size), many_whole(desk, size), whole_at(desk, size, number),
        whole_place(desk, talk)""",
    "endswell.facing": """pair_kind(one, other, pair), next_pairs(one, other, pair), pairs_come(one, other),
        talk_to(one, other, pair), is_talk_to(one, other, pair, value), pair_behind(one, other, talk),
        end_well(one, other), ways_out(one, other), are_ways_out(one, other, value), way_out(one, other, pair),
        is_way_out(one, other, pair, value), farthest(one, other), farthest_pairs(one, other), bad_talk(one, other),
        is_bad_talk(one, other, value), first_stuck(one, other), is_first_stuck(one, other, value),
        never_stuck(one, other), ended_talks(one, other, size), ended_talk(one, other, size, number),
        ended_place(one, other, talk)""",
    "endswell.viable": """common_partner(desks), ending_talk(desk, state), fewest_words(desk, state),
        has_partner(desk), have_common(desks), is_common_partner(desks, value), is_ending_talk(desk, state, value),
        is_level_paper(desk, state, value), is_rank_paper(desk, state, value), level_paper(desk, state),
        rank_paper(desk, state), rescues(desk), sayable_words(desk, state), spoken_desk(desk), viable_states(desk)""",
    "endswell.partners": """most_willing(desk), is_most_willing(desk, value), shy_partner(desk), is_shy_partner(desk,
        value), partner_within(desk, words), is_partner_within(desk, words, value), least_words(desk),
        needed_words(desk), may_say(desk, talk), joined_partner(desk, one, other), is_joined_partner(desk, one, other,
        value), fitted(desk, partner)""",
    "endswell.stands": """stands(elder, newer), stands_within(elder, newer, words), common_pairs(elder, newer),
        missing_talk(elder, newer), is_missing_talk(elder, newer, value), levels_table(elder, newer),
        is_levels_table(elder, newer, value), least_levels(elder, newer), lost_set(elder, newer), is_lost_set(elder,
        newer, value), spoiler(elder, newer), is_spoiler(elder, newer, value), losing_talk(elder, newer),
        is_losing_talk(elder, newer, value)""",
    "endswell.orders": """standing_pairs(elder, newer), going_on(elder, newer, talk), order_between(one, other),
        same_partners(one, other), parting_partner(one, other), is_parting_partner(one, other, value), likeness(one,
        other), is_likeness(one, other, value), tester(desk), one_tells(desk), fooling_desk(desk),
        is_fooling_desk(desk, value), choice_ring(desk), is_choice_ring(desk, value), split_of(desk), is_split(desk,
        value), least_desk(desk), is_least_desk(desk, value), stand_in(desks), is_stand_in(desks, value)""",
    "endswell.stuckless": """is_safe(elder, newer), safe_pairs(elder, newer), is_safe_table(elder, newer,
        value), unfit_talk(elder, newer), is_unfit_talk(elder, newer, value), sticking_desk(elder, newer),
        is_sticking_desk(elder, newer, value), both_orders(elder, newer)""",
    "endswell.lots": """said_words(desk), heard_words(desk), dropped(desk, lot), is_harmless(desk, value),
        harmless_lots(desk), greatest_harmless(desk), least_harmful(desk), harmed_partner(desk, lot),
        is_harmed_partner(desk, lot, value), must_say(desk), free_words(desk), said_again(desk, lot),
        live_states(desk), needed_heard(desk), least_hearing(desk), is_spare(desk, value), lot_desk(desk,
        changes, lot), spoiling_lots(desk, changes), standing_lots(desk, changes)""",
    "endswell.joining": """then(first, second), said_choice(arms), heard_choice(arms), merged(first, second),
        said_rounds(desk, again, enough), heard_rounds(desk, again, enough), limited_rounds(desk, again,
        enough, most_rounds), is_frame(value), filled(frame, desk), stands_in(frame, elder, newer),
        is_keeping(frame), breaking_pair(frame), is_breaking_pair(frame, value), waists(desk), cut_at(desk,
        state), are_alike(first, second), parting_talk(first, second), is_parting_talk(first, second, value)""",
    "endswell.forcing": """forced_pairs(one, other), forces(one, other), forcing_plan(one, other),
        is_forcing_plan(one, other, value), holding_off(one, other), is_holding_off(one, other, value),
        who_ends(one, other), led_pairs(elder, newer), leads_all(elder, newer), ends_everywhere(desk),
        ends_with_all(desk), ends_with_some(desk), ending_partner(desk), is_ending_partner(desk, value),
        delaying_partner(desk), is_delaying_partner(desk, value)""",
    "endswell.lines": """deeds_at(one, other, size, scene), scene_after(one, other, size, deeds),
        end_well_over(one, other, size), lost_deeds(one, other, size), are_lost_deeds(one, other, size,
        value), deeds_out(one, other, size, scene), are_deeds_out(one, other, size, scene, value),
        farthest_over(one, other, size), sizes_over(one, other, most), most_waiting(one, other, size),
        plain_talk(one, other, deeds)""",
    "endswell.scripts": """play(hall, script), script_text(script), read_script(text), end_of(script),
        shortened(script)""",
    "endswell.papers": """desk_text(desk), read_desk(text), change_text(change), read_change(text),
        talk_text(talk), read_talk(text), levels_text(levels), read_levels(text), desks_text(desks),
        read_desks(text)""",
    "endswell.hall": """replayed(hall, log)""",
}
METHODS = """seat(own, guest), places(), own(place), guest(place), talk(place), pair(place), go_on(place, word),
    words(place), is_ended(place), leave(place), exchange(place, newer, state), renew(place, newer),
    renewable(place, newer), risk(place, newer, state), states_for(place, newer), safe_with(place, newer),
    still_ends(place), still_ends_by(place, value), spoiler(place, newer, state), swap(place, other),
    fits_with(place), turn(place), undo(), redo(), trial(), attempt(action), copy(), log()"""


def calls_in(row):
    """Tuples of a name and the list of its arguments."""
    for call in " ".join(row.split()).split("),"):
        name, arguments = call.strip().rstrip(")").split("(")
        yield name, arguments.split(", ") if arguments else []


def listed():
    """Tuples of a module, a name in it and the list of its arguments."""
    for module, row in ROWS.items():
        for name, arguments in calls_in(row):
            yield module, name, arguments


class TheInterface(unittest.TestCase):
    def test_functions_stand_in_their_files_with_their_arguments(self):
        many = 0
        for module, name, arguments in listed():
            function = getattr(importlib.import_module(module), name)
            self.assertTrue(inspect.isfunction(function), name)
            self.assertEqual((function.__module__, function.__name__), (module, name))
            self.assertEqual(list(inspect.signature(function).parameters), arguments, name)
            many += 1
        self.assertEqual(many, 13 + 13 + 21 + 15 + 12 + 14 + 20 + 8 + 19 + 18 + 16 + 11 + 5 + 10 + 1)

    def test_the_desk_defines_its_own_methods(self):
        self.assertEqual(Desk.__module__, "endswell.desks")
        self.assertEqual(list(inspect.signature(Desk).parameters), ["book", "start"])
        for name in ("book", "start", "__eq__", "__init__"):
            self.assertIn(name, vars(Desk))

    def test_the_hall_defines_its_own_methods(self):
        self.assertEqual((Hall.__module__, list(inspect.signature(Hall).parameters)), ("endswell.hall", []))
        methods = list(calls_in(METHODS))
        for name, arguments in methods:
            self.assertTrue(inspect.isfunction(vars(Hall)[name]), name)
            self.assertEqual(list(inspect.signature(getattr(Hall(), name)).parameters), arguments, name)
        self.assertEqual(len(methods), 28)

    def test_methods_of_the_hall_may_be_passed_their_arguments_by_name(self):
        desk, other = loop(), Desk({"p": ("hears", {"more": "p", "stop": "q"}), "q": ("done", {})}, "p")
        hall = Hall()
        hall.seat(guest=other, own=desk)
        hall.seat(own=desk, guest=other)
        self.assertEqual(hall.go_on(word="more", place=0), ("s", "p"))
        self.assertEqual([hall.own(place=0), hall.guest(place=0), hall.talk(place=0), hall.pair(place=0)],
                         [desk, other, ["more"], ("s", "p")])
        self.assertEqual([hall.words(place=0), hall.is_ended(place=0), hall.still_ends(place=0)],
                         [["more", "stop"], False, ["stop"]])
        self.assertEqual([hall.exchange(state="s", newer=desk, place=0), hall.risk(newer=desk, place=0, state="s"),
                          hall.renew(newer=desk, place=0), hall.renewable(newer=desk, place=0),
                          hall.states_for(newer=desk, place=0), hall.safe_with(newer=desk, place=0)],
                         [None, None, None, True, ["s"], ["s"]])
        self.assertEqual([hall.still_ends_by(value=["stop"], place=0), hall.spoiler(state="s", newer=desk, place=0),
                          hall.swap(other=1, place=0), hall.fits_with(place=0), hall.turn(place=1),
                          hall.attempt(action=lambda same: same is hall)], [True, None, None, [1], None, True])
        hall.go_on(0, "stop")
        self.assertIsNone(hall.leave(place=0))

    def test_arguments_may_be_passed_by_name(self):
        desk = loop()
        valid = {
            "desk": desk, "state": "s", "change": ("begin", "t"), "changes": [], "names": {"s": "a", "t": "b"},
            "talk": ["stop"], "size": 1, "number": 0, "one": desk, "pair": ("s", "p"), "value": ["stop"],
            "other": Desk({"p": ("hears", {"more": "p", "stop": "q"}), "q": ("done", {})}, "p"),
            "desks": [desk], "words": ["stop"], "elder": desk, "newer": desk, "lot": [], "first": desk, "second": desk,
            "arms": {"go": desk}, "again": "on", "enough": "off", "most_rounds": 1, "frame": None, "log": [],
            "most": 2, "scene": ("s", "p", (), ()), "deeds": [], "script": [("undo",)], "levels": {"s": 1},
        }
        texts = {"read_desk": "start s\ns done", "read_change": "begin t", "read_talk": "stop", "read_levels": "s = 1",
                 "read_desks": "", "read_script": "undo"}
        valid["partner"] = valid["other"]
        for module, name, arguments in listed():
            function = getattr(importlib.import_module(module), name)
            valid["text"], valid["hall"] = texts.get(name), Hall()
            # here the one and the other are partners of a desk
            valid["one"] = valid["other"] if module == "endswell.partners" else desk
            by_name = function(**{argument: valid[argument] for argument in reversed(arguments)})
            if name != "replayed":
                self.assertEqual(by_name, function(*[valid[argument] for argument in arguments]), name)
        self.assertEqual(Desk(start="t", book=desk.book()), Desk(desk.book(), "t"))
