"""The examples of sections 3, 4 and 5, as they are printed in the document."""

import unittest

DESKS = '''\
from endswell.desks import Desk, begun, changed, come_to, kind_of, renamed, states_of, trimmed, turned, turns_of, words_of
loop = Desk({"s": ("says", {"stop": "t", "more": "s"}), "t": ("done", {})}, "s")
[loop.book(), loop.start(), loop == Desk({"t": ("done", {}), "s": ("says", {"more": "s", "stop": "t"})}, "s")]
# [{'s': ('says', {'more': 's', 'stop': 't'}), 't': ('done', {})}, 's', True]
[states_of(loop), kind_of(loop, "t"), turns_of(loop, "s"), turns_of(loop, "t"), words_of(loop)]
# [['s', 't'], 'done', {'more': 's', 'stop': 't'}, {}, ['more', 'stop']]
only = changed(loop, ("drop", "s", "stop"))
[only.book(), come_to(only), trimmed(only).book(), come_to(begun(loop, "t"))]
# [{'s': ('says', {'more': 's'}), 't': ('done', {})}, ['s'], {'s': ('says', {'more': 's'})}, ['t']]
[turned(loop).book(), renamed(loop, {"t": "a", "s": "t"}).book(), renamed(loop, {"t": "a", "s": "t"}).start()]
# [{'s': ('hears', {'more': 's', 'stop': 't'}), 't': ('done', {})}, {'a': ('done', {}), 't': ('says', {'more': 't', 'stop': 'a'})}, 't']
changed(changed(loop, ("put", "u", ("hears", {"again": "u", "ok": "s"}))), ("begin", "u")).start()
# 'u'
'''

TALKS = '''\
from endswell.desks import Desk
from endswell.talks import is_longest_whole, longest_whole, many_talks, many_whole, shortest_whole, spoken, state_behind, turns_behind, whole_at, whole_place
loop = Desk({"s": ("says", {"more": "s", "stop": "t"}), "t": ("done", {})}, "s")
ways = Desk({"a": ("says", {"go": "b", "out": "t"}), "b": ("says", {"back": "a", "off": "t"}), "t": ("done", {})}, "a")
short = Desk({"a": ("says", {"go": "b"}), "b": ("hears", {"no": "t", "yes": "t"}), "t": ("done", {})}, "a")
[state_behind(ways, ["go", "back"]), state_behind(ways, ["back"]), turns_behind(ways, ["go"]), spoken(short, ["go", "yes"])]
# ['a', None, ('says', ['back', 'off']), [('says', 'go'), ('hears', 'yes')]]
[shortest_whole(loop), longest_whole(loop), len(longest_whole(short)), is_longest_whole(short, ["go", "no"])]
# [['stop'], None, 2, True]
[many_talks(ways, 3), many_whole(ways, 3), whole_at(ways, 3, 0), whole_place(ways, ["go", "off"]), whole_place(ways, ["go"])]
# [2, 1, ['go', 'back', 'out'], 0, None]
'''

FACING = '''\
from endswell.desks import Desk
from endswell.facing import are_ways_out, bad_talk, end_well, ended_place, ended_talk, ended_talks, farthest, farthest_pairs, first_stuck
from endswell.facing import is_bad_talk, never_stuck, next_pairs, pair_behind, pair_kind, pairs_come, talk_to, way_out, ways_out
loop = Desk({"s": ("says", {"more": "s", "stop": "t"}), "t": ("done", {})}, "s")
ways = Desk({"a": ("says", {"go": "b", "out": "t"}), "b": ("says", {"back": "a", "off": "t"}), "t": ("done", {})}, "a")
all_ear = Desk({"p": ("hears", {"back": "p", "go": "p", "more": "p", "off": "q", "out": "q", "stop": "q"}), "q": ("done", {})}, "p")
deaf = Desk({"p": ("hears", {"more": "p"}), "q": ("done", {})}, "p")
[end_well(loop, all_ear), pairs_come(loop, all_ear), are_ways_out(loop, all_ear, ways_out(loop, all_ear)), next_pairs(loop, all_ear, ("s", "p"))]
# [True, [('s', 'p'), ('t', 'q')], True, {'more': ('s', 'p'), 'stop': ('t', 'q')}]
[pair_kind(loop, deaf, ("s", "p")), next_pairs(loop, deaf, ("s", "p")), end_well(loop, deaf), first_stuck(loop, deaf), never_stuck(loop, deaf), bad_talk(loop, deaf)[0]]
# ['stuck', {}, False, [], False, []]
only = Desk({"s": ("says", {"more": "s"})}, "s")
[end_well(only, deaf), never_stuck(only, deaf), bad_talk(only, deaf)[0], is_bad_talk(only, deaf, (["more"], [("s", "p")])), farthest(only, deaf)]
# [False, True, [], True, None]
[farthest(ways, all_ear), farthest_pairs(ways, all_ear), way_out(ways, all_ear, ("b", "p")), talk_to(ways, all_ear, ("b", "p")), pair_behind(ways, all_ear, ["go", "off"])]
# [1, [('a', 'p'), ('b', 'p')], ['off'], ['go'], ('t', 'q')]
[ended_talks(ways, all_ear, 3), ended_talk(ways, all_ear, 3, 0), ended_place(ways, all_ear, ["go", "off"]), ended_place(ways, all_ear, ["go", "out"]), are_ways_out(loop, all_ear, {("t", "q"): 0, ("s", "p"): 7})]
# [1, ['go', 'back', 'out'], 0, None, True]
'''


def told(block):
    """Tuples of what a line of a block gives, and what the document prints below it."""
    names, given = {}, None
    for line in block.splitlines():
        if line.startswith("# "):
            yield repr(given), line[2:]
        elif line.startswith("from ") or " = Desk(" in line or " = changed(" in line:
            exec(line, names)
        else:
            given = eval(line, names)


class TheExamples(unittest.TestCase):
    def check(self, block, lines):
        self.assertEqual(block.count("\n# "), lines)
        for given, printed in told(block):
            self.assertEqual(given, printed)

    def test_section_3(self):
        self.check(DESKS, 5)

    def test_section_4(self):
        self.check(TALKS, 3)

    def test_section_5(self):
        self.check(FACING, 5)
