"""The examples of sections 3 to 9, as they are printed in the document."""

import unittest

DESKS = '''\
from endswell.desks import Desk, begun, changed, come_to, kind_of, renamed, states_of, trimmed, turned, turns_of, words_of
loop = Desk({"s": ("says", {"stop": "t", "more": "s"}), "t": ("done", {})}, "s")
[loop.book(), loop.start(), loop == Desk({"t": ("done", {}), "s": ("says", {"more": "s", "stop": "t"})}, "s")]
# [{'s': ('says', {'more': 's', 'stop': 't'}), 't': ('done', {})}, 's', True]
[states_of(loop), kind_of(loop, "t"), turns_of(loop, "s"), turns_of(loop, "t"), words_of(loop)]
# [['s', 't'], 'done', {'more': 's', 'stop': 't'}, {}, ['more', 'stop']]
only = changed(loop, ("drop", "s", "stop"))
[only.book(), come_to(only), trimmed(only).book(), come_to(begun(loop, "t"))]
# [{'s': ('says', {'more': 's'}), 't': ('done', {})}, ['s'], {'s': ('says', {'more': 's'})}, ['t']]
[turned(loop).book(), renamed(loop, {"t": "a", "s": "t"}).book(), renamed(loop, {"t": "a", "s": "t"}).start()]
# [{'s': ('hears', {'more': 's', 'stop': 't'}), 't': ('done', {})}, {'a': ('done', {}), 't': ('says', {'more': 't', 'stop': 'a'})}, 't']
changed(changed(loop, ("put", "u", ("hears", {"again": "u", "ok": "s"}))), ("begin", "u")).start()
# 'u'
'''

TALKS = '''\
from endswell.desks import Desk
from endswell.talks import is_longest_whole, longest_whole, many_talks, many_whole, shortest_whole, spoken, state_behind, turns_behind, whole_at, whole_place
loop = Desk({"s": ("says", {"more": "s", "stop": "t"}), "t": ("done", {})}, "s")
ways = Desk({"a": ("says", {"go": "b", "out": "t"}), "b": ("says", {"back": "a", "off": "t"}), "t": ("done", {})}, "a")
short = Desk({"a": ("says", {"go": "b"}), "b": ("hears", {"no": "t", "yes": "t"}), "t": ("done", {})}, "a")
[state_behind(ways, ["go", "back"]), state_behind(ways, ["back"]), turns_behind(ways, ["go"]), spoken(short, ["go", "yes"])]
# ['a', None, ('says', ['back', 'off']), [('says', 'go'), ('hears', 'yes')]]
[shortest_whole(loop), longest_whole(loop), len(longest_whole(short)), is_longest_whole(short, ["go", "no"])]
# [['stop'], None, 2, True]
[many_talks(ways, 3), many_whole(ways, 3), whole_at(ways, 3, 0), whole_place(ways, ["go", "off"]), whole_place(ways, ["go"])]
# [2, 1, ['go', 'back', 'out'], 0, None]
'''

FACING = '''\
from endswell.desks import Desk
from endswell.facing import are_ways_out, bad_talk, end_well, ended_place, ended_talk, ended_talks, farthest, farthest_pairs, first_stuck
from endswell.facing import is_bad_talk, never_stuck, next_pairs, pair_behind, pair_kind, pairs_come, talk_to, way_out, ways_out
loop = Desk({"s": ("says", {"more": "s", "stop": "t"}), "t": ("done", {})}, "s")
ways = Desk({"a": ("says", {"go": "b", "out": "t"}), "b": ("says", {"back": "a", "off": "t"}), "t": ("done", {})}, "a")
all_ear = Desk({"p": ("hears", {"back": "p", "go": "p", "more": "p", "off": "q", "out": "q", "stop": "q"}), "q": ("done", {})}, "p")
deaf = Desk({"p": ("hears", {"more": "p"}), "q": ("done", {})}, "p")
[end_well(loop, all_ear), pairs_come(loop, all_ear), are_ways_out(loop, all_ear, ways_out(loop, all_ear)), next_pairs(loop, all_ear, ("s", "p"))]
# [True, [('s', 'p'), ('t', 'q')], True, {'more': ('s', 'p'), 'stop': ('t', 'q')}]
[pair_kind(loop, deaf, ("s", "p")), next_pairs(loop, deaf, ("s", "p")), end_well(loop, deaf), first_stuck(loop, deaf), never_stuck(loop, deaf), bad_talk(loop, deaf)[0]]
# ['stuck', {}, False, [], False, []]
only = Desk({"s": ("says", {"more": "s"})}, "s")
[end_well(only, deaf), never_stuck(only, deaf), bad_talk(only, deaf)[0], is_bad_talk(only, deaf, (["more"], [("s", "p")])), farthest(only, deaf)]
# [False, True, [], True, None]
[farthest(ways, all_ear), farthest_pairs(ways, all_ear), way_out(ways, all_ear, ("b", "p")), talk_to(ways, all_ear, ("b", "p")), pair_behind(ways, all_ear, ["go", "off"])]
# [1, [('a', 'p'), ('b', 'p')], ['off'], ['go'], ('t', 'q')]
[ended_talks(ways, all_ear, 3), ended_talk(ways, all_ear, 3, 0), ended_place(ways, all_ear, ["go", "off"]), ended_place(ways, all_ear, ["go", "out"]), are_ways_out(loop, all_ear, {("t", "q"): 0, ("s", "p"): 7})]
# [1, ['go', 'back', 'out'], 0, None, True]
'''

VIABLE = '''\
from endswell.desks import Desk
from endswell.viable import fewest_words, has_partner, have_common, is_common_partner, is_ending_talk, is_level_paper, is_rank_paper, rescues, sayable_words, spoken_desk, viable_states
loop = Desk({"s": ("says", {"more": "s", "stop": "t"}), "t": ("done", {})}, "s")
asker = Desk({"s": ("hears", {"left": "l", "right": "r"}), "l": ("says", {"on": "s", "end": "t"}), "r": ("says", {"on": "s", "end": "t"}), "t": ("done", {})}, "s")
[viable_states(loop), is_rank_paper(loop, "s", {"s": 1, "t": 0}), is_rank_paper(loop, "s", {"s": 0, "t": 0}), fewest_words(loop, "s"), fewest_words(asker, "s"), is_ending_talk(asker, "s", ["right", "end"])]
# [['s', 't'], True, False, 1, 2, True]
poor = Desk({"s": ("hears", {"ok": "t", "no": "n"}), "n": ("says", {"sorry": "n"}), "t": ("done", {})}, "s")
[viable_states(poor), sayable_words(poor, "s"), sayable_words(poor, "n"), is_level_paper(poor, "n", {"n": 0}), is_level_paper(poor, "s", {"n": 0, "s": 1})]
# [['s', 't'], ['ok'], ['sorry'], True, False]
spoken_desk(poor) == Desk({"s": ("hears", {"ok": "t"}), "t": ("done", {})}, "s")
# True
dead = Desk({"s": ("says", {"go": "n", "stop": "t"}), "n": ("says", {"sorry": "n"}), "t": ("done", {})}, "s")
[has_partner(dead), is_level_paper(dead, "s", {"n": 0, "s": 1}), rescues(dead), rescues(loop), fewest_words(dead, "s")]
# [False, True, [[('s', 'go')]], [[]], None]
quick, slow = Desk({"s": ("says", {"ok": "t"}), "t": ("done", {})}, "s"), Desk({"s": ("says", {"ok": "t", "wait": "s"}), "t": ("done", {})}, "s")
ear = Desk({"e": ("done", {}), "p": ("hears", {"ok": "e", "wait": "p"})}, "p")
[have_common([quick, slow]), is_common_partner([quick, slow], ear), have_common([quick, asker])]
# [True, True, False]
'''

PARTNERS = '''\
from endswell.desks import Desk
from endswell.partners import fitted, is_joined_partner, is_most_willing, is_shy_partner, least_words, may_say, needed_words, partner_within
asker = Desk({"s": ("hears", {"left": "l", "right": "r"}), "l": ("says", {"on": "s", "end": "t"}), "r": ("says", {"on": "s"}), "t": ("done", {})}, "s")
[may_say(asker, []), may_say(asker, ["left"]), may_say(asker, ["right", "on"]), may_say(asker, ["on"]), least_words(asker), needed_words(asker)]
# [['left', 'right'], [], ['left', 'right'], None, [['left']], ['left']]
only = Desk({"a": ("says", {"left": "b"}), "b": ("hears", {"on": "a", "end": "c"}), "c": ("done", {})}, "a")
both = Desk({"a": ("says", {"left": "b", "right": "b"}), "b": ("hears", {"on": "a", "end": "c"}), "c": ("done", {})}, "a")
[is_shy_partner(asker, only), is_most_willing(asker, only), is_most_willing(asker, both), is_shy_partner(asker, both), partner_within(asker, ["right"])]
# [True, False, True, False, None]
wide = Desk({"a": ("says", {"left": "b"}), "b": ("hears", {"on": "a", "end": "c", "off": "x"}), "c": ("done", {}), "x": ("done", {})}, "a")
[is_joined_partner(asker, only, wide, only), is_joined_partner(asker, only, both, both), is_joined_partner(asker, only, only, both)]
# [True, True, False]
fitted(asker, wide) == only
# True
'''

STANDS = '''\
from endswell.desks import Desk
from endswell.stands import common_pairs, is_levels_table, is_lost_set, is_spoiler, least_levels, losing_talk, missing_talk, stands, stands_within
loop = Desk({"s": ("says", {"more": "s", "stop": "t"}), "t": ("done", {})}, "s")
only, quiet = Desk({"s": ("says", {"more": "s"})}, "s"), Desk({"s": ("says", {"stop": "t"}), "t": ("done", {})}, "s")
[stands(loop, only), stands(loop, quiet), stands(quiet, loop), missing_talk(quiet, loop), missing_talk(loop, only), losing_talk(loop, only)]
# [False, True, False, [], None, []]
[least_levels(loop, quiet), is_levels_table(loop, quiet, {("s", "s"): 0, ("t", "t"): 0}), is_lost_set(loop, only, {("s", "s"): 0}), is_lost_set(quiet, loop, {("s", "s"): 0})]
# [{('s', 's'): 1, ('t', 't'): 0}, False, True, True]
friend = Desk({"h": ("hears", {"more": "h", "stop": "t"}), "t": ("done", {})}, "h")
[is_spoiler(loop, only, (friend, [])), is_spoiler(loop, only, (friend, ["more", "more"])), is_spoiler(loop, quiet, (friend, [])), is_spoiler(only, loop, (friend, []))]
# [True, True, False, False]
ways = Desk({"a": ("says", {"go": "b", "out": "t"}), "b": ("says", {"back": "a", "off": "t"}), "t": ("done", {})}, "a")
part = Desk({"a": ("says", {"go": "b"}), "b": ("says", {"back": "a", "off": "t"}), "t": ("done", {})}, "a")
ring = Desk({"a": ("says", {"go": "b"}), "b": ("says", {"back": "a"})}, "a")
[least_levels(ways, part), stands(ways, ring), is_lost_set(ways, ring, {("a", "a"): 0, ("b", "b"): 0}), is_lost_set(part, ring, {("a", "a"): 1, ("b", "b"): 0})]
# [{('a', 'a'): 2, ('b', 'b'): 1, ('t', 't'): 0}, False, True, True]
asker = Desk({"s": ("hears", {"left": "l", "right": "r"}), "l": ("says", {"on": "s", "end": "t"}), "r": ("says", {"on": "s", "end": "t"}), "t": ("done", {})}, "s")
late = Desk({"s": ("hears", {"left": "l", "right": "r"}), "l": ("says", {"on": "s"}), "r": ("says", {"on": "s", "end": "t"}), "t": ("done", {})}, "s")
lefty = Desk({"q": ("says", {"left": "w"}), "w": ("hears", {"on": "q", "end": "t"}), "t": ("done", {})}, "q")
both = Desk({"q": ("says", {"left": "w", "right": "w"}), "w": ("hears", {"on": "q", "end": "t"}), "t": ("done", {})}, "q")
[stands(asker, late), stands_within(asker, late, ["left"]), stands_within(asker, late, ["left", "right"]), is_spoiler(asker, late, (lefty, [])), is_spoiler(asker, late, (both, [])), is_lost_set(asker, late, {("l", "l"): 0, ("s", "s"): 1})]
# [False, True, True, True, False, True]
maybe = Desk({"q": ("hears", {"ok": "t", "no": "n"}), "n": ("says", {"sorry": "n"}), "t": ("done", {})}, "q")
short = Desk({"q": ("hears", {"ok": "t"}), "t": ("done", {})}, "q")
[stands(maybe, short), stands(short, maybe), common_pairs(maybe, short), least_levels(maybe, short)]
# [True, True, [('q', 'q'), ('t', 't')], {('q', 'q'): 0, ('t', 't'): 0}]
first, last = Desk({"a": ("says", {"x": "t"}), "t": ("done", {})}, "a"), Desk({"a": ("says", {"x": "u"}), "u": ("says", {"y": "u"})}, "a")
[missing_talk(first, last), losing_talk(first, last), is_lost_set(first, last, {("a", "a"): 1, ("t", "u"): 0})]
# [['x'], [], True]
'''

ORDERS = '''\
from endswell.desks import Desk
from endswell.orders import choice_ring, going_on, is_choice_ring, is_fooling_desk, is_least_desk, is_likeness, is_parting_partner, is_split, is_stand_in, one_tells, order_between, same_partners, stand_in, standing_pairs
loop = Desk({"s": ("says", {"more": "s", "stop": "t"}), "t": ("done", {})}, "s")
only, quiet = Desk({"s": ("says", {"more": "s"})}, "s"), Desk({"s": ("says", {"stop": "t"}), "t": ("done", {})}, "s")
[standing_pairs(loop, quiet), going_on(loop, quiet, ["more", "more"]), going_on(loop, quiet, ["stop"]), going_on(loop, only, [])]
# [[('s', 's'), ('t', 't')], ['s'], ['t'], []]
[order_between(loop, quiet), order_between(quiet, loop), order_between(loop, only)]
# ['forth', 'back', 'back']
maybe = Desk({"q": ("hears", {"ok": "t", "no": "n"}), "n": ("says", {"sorry": "n"}), "t": ("done", {})}, "q")
short = Desk({"q": ("hears", {"ok": "t"}), "t": ("done", {})}, "q")
[same_partners(maybe, short), is_likeness(maybe, short, [("q", "q"), ("t", "t")]), is_least_desk(maybe, short), is_least_desk(short, maybe)]
# [True, True, True, False]
shy = Desk({"h": ("hears", {"stop": "t"}), "t": ("done", {})}, "h")
[is_parting_partner(loop, quiet, shy), is_parting_partner(quiet, loop, shy), is_parting_partner(maybe, short, shy)]
# [True, True, False]
asker = Desk({"s": ("hears", {"left": "l", "right": "r"}), "l": ("says", {"on": "s", "end": "t"}), "r": ("says", {"on": "s", "end": "t"}), "t": ("done", {})}, "s")
late = Desk({"s": ("hears", {"left": "l", "right": "r"}), "l": ("says", {"on": "s"}), "r": ("says", {"on": "s", "end": "t"}), "t": ("done", {})}, "s")
[one_tells(loop), is_split(loop, {"s": 0, "t": 0}), one_tells(asker), is_choice_ring(asker, ([], ["left", "on"])), is_choice_ring(asker, ([], ["left"])), is_fooling_desk(asker, late)]
# [True, True, False, True, False, True]
near = Desk({"s": ("hears", {"left": "s", "right": "l"}), "l": ("says", {"on": "t", "off": "t"}), "t": ("done", {})}, "s")
[one_tells(near), choice_ring(near), is_split(near, {"s": 1, "l": 0, "t": 0}), is_split(near, {"s": 0, "l": 0, "t": 0})]
# [True, None, True, False]
red, green = Desk({"s": ("says", {"red": "t", "blue": "t"}), "t": ("done", {})}, "s"), Desk({"s": ("says", {"blue": "t", "green": "t"}), "t": ("done", {})}, "s")
blue = Desk({"s": ("says", {"blue": "t"}), "t": ("done", {})}, "s")
[is_stand_in([red, green], blue), is_stand_in([red, green], red), is_stand_in([red], blue), stand_in([red, maybe]), is_stand_in([red, only], red)]
# [True, False, False, None, True]
'''


def told(block):
    """Tuples of what a line of a block gives, and what the document prints below it."""
    names, given = {}, None
    for line in block.splitlines():
        if line.startswith("# "):
            yield repr(given), line[2:]
        elif line.startswith("from ") or " = Desk(" in line or " = changed(" in line:
            exec(line, names)
        else:
            given = eval(line, names)


class TheExamples(unittest.TestCase):
    def check(self, block, lines):
        self.assertEqual(block.count("\n# "), lines)
        for given, printed in told(block):
            self.assertEqual(given, printed)

    def test_section_3(self):
        self.check(DESKS, 5)

    def test_section_4(self):
        self.check(TALKS, 3)

    def test_section_5(self):
        self.check(FACING, 5)

    def test_section_6(self):
        self.check(VIABLE, 5)

    def test_section_7(self):
        self.check(PARTNERS, 4)

    def test_section_8(self):
        self.check(STANDS, 7)

    def test_section_9(self):
        self.check(ORDERS, 7)
