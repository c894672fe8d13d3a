"""[83] to [88]: two desks that talk over lines, held against answers that are found plainly."""

import itertools
import unittest

from endswell.desks import Desk, turned
from endswell.errors import InvalidCount, InvalidDeeds, InvalidDesk, InvalidScene
from endswell.facing import end_well
from endswell.lines import are_deeds_out, are_lost_deeds, deeds_at, deeds_out, end_well_over, farthest_over, lost_deeds
from endswell.lines import most_waiting, plain_talk, scene_after, sizes_over
from tests.helpers import Plain, all_rows, frozen, junk, loop, not_counts, not_desks, seeds
from tests.plain import DONE, lively, near

ONCE = Desk({"a": ("says", {"hi": "b"}), "b": ("hears", {"hi": "c"}), "c": DONE}, "a")
TWICE = Desk({"a": ("says", {"hi": "b"}), "b": ("says", {"hi": "c"}), "c": ("hears", {"hi": "d"}),
              "d": ("hears", {"hi": "e"}), "e": DONE}, "a")


class PlainLines:
    """Two desks that talk over lines of a size, as [83] tells it."""

    def __init__(self, one, other, size, first=None):
        self.books = {"one": one.book(), "other": other.book()}
        self.size = size
        self.deeds = [(who, does, word) for who in ("one", "other") for does in ("puts", "takes") for word in "xyz"]
        self.first = first or (one.start(), other.start(), (), ())
        self.come = [self.first]
        seen = {self.first}
        for scene in self.come:
            for later in self.nexts(scene).values():
                if later not in seen:
                    seen.add(later)
                    self.come.append(later)
        self.out = self.least_out()
        self.well = set(self.out) == set(self.come)

    def done(self, scene, deed):
        """The scene behind a deed, None if it cannot be done."""
        who, does, word = deed
        states = {"one": scene[0], "other": scene[1]}
        lines = {"one": list(scene[2]), "other": list(scene[3])}
        kind, turns = self.books[who][states[who]]
        if word not in turns or kind != {"puts": "says", "takes": "hears"}[does]:
            return None
        if does == "puts":
            lines[who].append(word)
            if len(lines[who]) > self.size:
                return None
        else:
            line = lines["other" if who == "one" else "one"]
            if line[:1] != [word]:
                return None
            del line[0]
        states[who] = turns[word]
        return states["one"], states["other"], tuple(lines["one"]), tuple(lines["other"])

    def nexts(self, scene):
        told = {deed: self.done(scene, deed) for deed in self.deeds}
        return {deed: told[deed] for deed in sorted(told) if told[deed] is not None}

    def ended(self, scene):
        kinds = {self.books["one"][scene[0]][0], self.books["other"][scene[1]][0]}
        return kinds == {"done"} and scene[2:] == ((), ())

    def least_out(self):
        """The least number of deeds from scenes that can come to an ended one."""
        before = {}
        for scene in self.come:
            for later in self.nexts(scene).values():
                before.setdefault(later, []).append(scene)
        least = {scene: 0 for scene in self.come if self.ended(scene)}
        row = list(least)
        for scene in row:
            for earlier in before.get(scene, []):
                if earlier not in least:
                    least[earlier] = least[scene] + 1
                    row.append(earlier)
        return least

    def behind(self, deeds):
        scene = self.first
        for deed in deeds:
            scene = scene and self.done(scene, deed)
        return scene

    def least_to(self, goals):
        """The least number of deeds from the first scene to one of the goals, None if there is none."""
        layer, many, seen = [self.first], 0, {self.first}
        while layer:
            if set(layer) & set(goals):
                return many
            coming = {later for scene in layer for later in self.nexts(scene).values()} - seen
            seen |= coming
            layer, many = sorted(coming), many + 1
        return None


def two_over_lines(rng):
    """Two desks that often end well over lines of some sizes."""
    one = lively(rng, "abc", "xy")
    if rng.random() < 0.35:
        one = Desk({**one.book(), "t": rng.choice([DONE, ("hears", {"x": "u"})]), "u": DONE}, one.start())
    other = turned(one) if rng.random() < 0.6 else lively(rng, "abc", "xy")
    return one, near(rng, other) if rng.random() < 0.4 else other


def over(many, sizes=(1, 2, 3)):
    for rng in seeds(many):
        one, other = two_over_lines(rng)
        size = rng.choice(sizes)
        yield rng, one, other, size, PlainLines(one, other, size)


def random_deeds(rng, plain, most=8):
    """A list of deeds that can be done, from the first scene on."""
    deeds, scene = [], plain.first
    for _ in range(rng.randint(0, most)):
        nexts = plain.nexts(scene)
        if nexts:
            deed = rng.choice(list(nexts))
            deeds.append(deed)
            scene = nexts[deed]
    return deeds


def random_scene(rng, one, other, size):
    lines = [tuple(rng.choice("xyz") for _ in range(rng.randint(0, size))) for _ in range(2)]
    return rng.choice(sorted(one.book())), rng.choice(sorted(other.book())), lines[0], lines[1]


class Scenes(unittest.TestCase):
    def test_deeds_at(self):
        many = 0
        for rng, one, other, size, plain in over(250):
            for scene in plain.come[:12] + [random_scene(rng, one, other, size) for _ in range(9)]:
                right = list(plain.nexts(scene))
                many += len(right) > 1
                self.assertEqual(deeds_at(one, other, size, scene), right)
        self.assertGreater(many, 300)

    def test_scene_after(self):
        told = [0, 0]
        for rng, one, other, size, plain in over(300):
            for _ in range(6):
                deeds = random_deeds(rng, plain)
                if rng.random() < 0.4:
                    deeds.insert(rng.randint(0, len(deeds)), rng.choice(plain.deeds))
                right = plain.behind(deeds)
                told[right is None] += 1
                self.assertEqual(scene_after(one, other, size, deeds), right)
        self.assertGreater(min(told), 300)

    def test_by_hand(self):
        ear = Desk({"p": ("hears", {"more": "p", "stop": "q"}), "q": DONE}, "p")
        self.assertEqual(deeds_at(loop(), ear, 2, ("s", "p", ("more",), ())),
                         [("one", "puts", "more"), ("one", "puts", "stop"), ("other", "takes", "more")])
        self.assertEqual(deeds_at(loop(), ear, 1, ("s", "p", ("more",), ())), [("other", "takes", "more")])
        self.assertEqual(deeds_at(loop(), ear, 1, ("t", "p", ("never",), ("never",))), [])
        self.assertEqual(deeds_at(ear, loop(), 2, ("p", "s", (), ("stop", "more"))),
                         [("one", "takes", "stop")])
        self.assertEqual(scene_after(loop(), ear, 2, [("one", "puts", "more"), ("one", "puts", "stop")]),
                         ("t", "p", ("more", "stop"), ()))
        self.assertIsNone(scene_after(loop(), ear, 1, [("one", "puts", "more"), ("one", "puts", "stop")]))


class Ends(unittest.TestCase):
    def test_end_well_over(self):
        told = [0, 0]
        for rng, one, other, _, _ in over(250, (1,)):
            plain = [PlainLines(one, other, size) for size in (1, 2, 3)]
            told[plain[0].well] += 1
            self.assertEqual([end_well_over(one, other, size) for size in (1, 2, 3)], [each.well for each in plain])
            for most in (1, 2, 3):
                self.assertEqual(sizes_over(one, other, most), [size for size in range(1, most + 1)
                                                                if plain[size - 1].well])
            for size in (1, 2, 3):
                waits = plain[size - 1].come
                self.assertEqual(most_waiting(one, other, size), (max(len(scene[2]) for scene in waits),
                                                                  max(len(scene[3]) for scene in waits)))
                farthest = max(plain[size - 1].out.values()) if plain[size - 1].well else None
                self.assertEqual(farthest_over(one, other, size), farthest)
        self.assertGreater(min(told), 60)

    def test_what_ends_well_does_so_over_lines(self):
        many = 0
        for _, one, other, size, plain in over(250):
            if end_well(one, other):
                many += 1
                self.assertIs(end_well_over(one, other, size), True)
                self.assertTrue(all(scene[2] == () or scene[3] == () for scene in plain.come))
        self.assertGreater(many, 60)

    def test_the_other_way_about_is_false(self):
        self.assertEqual([end_well(ONCE, ONCE), sizes_over(ONCE, ONCE, 3), sizes_over(TWICE, TWICE, 3)],
                         [False, [1, 2, 3], [2, 3]])
        self.assertEqual([most_waiting(ONCE, ONCE, 3), most_waiting(TWICE, TWICE, 1)], [(1, 1), (1, 1)])

    def test_lost_deeds(self):
        told, longer = [0, 0], 0
        for rng, one, other, size, plain in over(300):
            lost = set(plain.come) - set(plain.out)
            given = lost_deeds(one, other, size)
            told[given is None] += 1
            self.assertEqual(None if given is None else len(given), plain.least_to(lost))
            if given is not None:
                self.assertIn(plain.behind(given), lost)
                self.assertIs(are_lost_deeds(one, other, size, given), True)
            for _ in range(6):
                deeds = random_deeds(rng, plain)
                if rng.random() < 0.3:
                    deeds.insert(rng.randint(0, len(deeds)), rng.choice(plain.deeds))
                right = plain.behind(deeds) in lost
                longer += right and len(deeds) > len(given)
                self.assertIs(are_lost_deeds(one, other, size, deeds), right)
        self.assertGreater(min(told), 60)
        self.assertGreater(longer, 60)

    def test_deeds_out(self):
        told = [0, 0]
        for rng, one, other, size, plain in over(150):
            for scene in rng.sample(plain.come, min(4, len(plain.come))) + [random_scene(rng, one, other, size)]:
                from_there = PlainLines(one, other, size, scene)
                least = from_there.out.get(scene)
                given = deeds_out(one, other, size, scene)
                told[given is None] += 1
                self.assertEqual(None if given is None else len(given), least)
                if given is not None:
                    self.assertTrue(from_there.ended(from_there.behind(given)))
                    self.assertIs(are_deeds_out(one, other, size, scene, given), True)
                    self.assertIs(are_deeds_out(one, other, size, scene, given + given[-1:]), given == [])
                for _ in range(4):
                    deeds = random_deeds(rng, from_there, 5)
                    behind = from_there.behind(deeds)
                    right = len(deeds) == least and from_there.ended(behind)
                    self.assertIs(are_deeds_out(one, other, size, scene, deeds), right)
        self.assertGreater(min(told), 100)

    def test_longer_ways_out_are_none(self):
        ear = Desk({"p": ("hears", {"more": "p", "stop": "q"}), "q": DONE}, "p")
        way = [("one", "puts", "more"), ("other", "takes", "more"), ("one", "puts", "stop"), ("other", "takes", "stop")]
        first = ("s", "p", (), ())
        self.assertEqual([are_deeds_out(loop(), ear, 2, first, way), are_deeds_out(loop(), ear, 2, first, way[2:])],
                         [False, True])
        self.assertEqual(deeds_out(loop(), ear, 1, ("s", "p", ("stop",), ())), None)


class PlainTalks(unittest.TestCase):
    def test_plain_talk(self):
        told, long_ones = [0, 0], 0
        for rng, one, other, _, _ in over(400, (3,)):
            plain, facing = PlainLines(one, other, 9), Plain(one, other)
            for _ in range(4):
                deeds = random_deeds(rng, plain)
                taken = {who: [word for own, does, word in deeds if (own, does) == (who, "takes")]
                         for who in ("one", "other")}
                right = [talk for talk in all_rows("xy", 6) if self.says(facing, talk) == (taken["other"],
                                                                                           taken["one"])]
                if sum(map(len, taken.values())) > 6:
                    continue
                self.assertLess(len(right), 2)
                told[right == []] += 1
                long_ones += right != [] and len(right[0]) > 1
                self.assertEqual(plain_talk(one, other, deeds), right[0] if right else None)
        self.assertGreater(min(told), 60)
        self.assertGreater(long_ones, 100)

    def says(self, facing, talk):
        """What the one and what the other says along a talk, None if it does not lead from pair to pair."""
        said = ([], [])
        for at, word in enumerate(talk):
            pair = facing.behind(talk[:at + 1])
            if pair is None:
                return None
            before = facing.behind(talk[:at])
            said[facing.book[before[0]][0] != "says"].append(word)
        return said

    def test_for_desks_that_end_well_there_is_one(self):
        many = 0
        for rng, one, other, size, plain in over(250):
            if end_well(one, other):
                for _ in range(3):
                    many += 1
                    deeds = random_deeds(rng, plain, 12)
                    self.assertEqual(plain_talk(one, other, deeds), [word for _, does,
                                                                     word in deeds if does == "takes"])
        self.assertGreater(many, 150)

    def test_over_lines_with_room_for_all(self):
        ear = Desk({"p": ("hears", {"more": "p", "stop": "q"}), "q": DONE}, "p")
        puts = [("one", "puts", "more")] * 40
        self.assertEqual([plain_talk(loop(), ear, puts), plain_talk(loop(), ear, [])], [[], []])
        takes = [("other", "takes", "more")] * 20
        self.assertEqual(plain_talk(loop(), ear, puts[:20] + takes), ["more"] * 20)
        self.assertIsNone(plain_talk(ONCE, ONCE, [("one", "puts", "hi"), ("other", "puts", "hi"),
                                                  ("one", "takes", "hi"), ("other", "takes", "hi")]))
        wrong = [("other", "takes", "more")]
        with self.assertRaises(InvalidDeeds) as caught:
            plain_talk(loop(), ear, wrong)
        self.assertIs(caught.exception.value, wrong)


def not_scenes():
    """No scenes of the desk ONCE and itself over lines of the size 2."""
    right = [("a", "a", (), ()), ("a", "b", ("hi",), ("hi", "x"))]
    wrong = [["a", "a", (), ()], ("a", "a", ()), ("a", "a", (), (), ()), ("a", "zz", (), ()), ("zz", "a", (), ()),
            ("a", "a", [], ()), ("a", "a", (), []), ("a", "a", ("hi", "hi", "hi"), ()), ("a", "a", (), ("x",) * 3),
            ("a", "a", ("Hi",), ()), ("a", "a", (), (1,)), ("a", "a", (True,), ()), ("a", "a", "hi", ()),
            ("a", "a", None, ()), (None, "a", (), ()), (["a"], "a", (), ()), ("a", {}, (), ()), ("a", "a", {}, ()),
            ("a", "a", (("hi",),), ()), {"a": "a"}, ONCE, ("a", "a"), [("a", "a", (), ())], ("a", "a", (None,), ())]
    assert all(deeds_at(ONCE, ONCE, 2, scene) is not None for scene in right)
    return junk() + wrong


def not_deeds():
    return [thing for thing in junk() if thing != []] + [
        ("one", "puts", "hi"), [["one", "puts", "hi"]], (("one", "puts", "hi"),), [("one", "puts")],
        [("one", "puts", "hi", "hi")], [("two", "puts", "hi")], [("one", "says", "hi")], [("one", "puts", "Hi")],
        [("one", "puts", True)], [(1, "puts", "hi")], [("one", None, "hi")], [(["one"], "puts", "hi")],
        [("one", {}, "hi")], [("one", "puts", ["hi"])], [("one", "puts", "hi"), None], {("one", "puts", "hi"): 1},
        [("one", "puts", "")], ONCE, [ONCE], "one", [("one", "puts", ("hi",))]]


class Wrong(unittest.TestCase):
    def check(self, error, value, function, *arguments):
        before = frozen(value)
        with self.assertRaises(error) as caught:
            function(*arguments)
        self.assertIs(caught.exception.value, value)
        self.assertIs(type(caught.exception), error)
        self.assertEqual(frozen(value), before)

    def test_the_first_wrong_argument_is_told(self):
        scene = ("a", "a", (), ())
        with_size = ((deeds_at, [scene]), (scene_after, [[]]), (end_well_over, []), (lost_deeds, []), (sizes_over, []),
                     (are_lost_deeds, [[]]), (deeds_out, [scene]), (are_deeds_out, [scene, []]), (farthest_over, []),
                     (most_waiting, []))
        for function, more in with_size:
            function(ONCE, ONCE, 2, *more)
            for rest in (more, [None] * len(more)):
                for value in not_desks():
                    self.check(InvalidDesk, value, function, value, None, None, *rest)
                    self.check(InvalidDesk, value, function, ONCE, value, None, *rest)
                for value in not_counts() + [0]:
                    self.check(InvalidCount, value, function, ONCE, ONCE, value, *rest)
        for function, more in ((deeds_at, []), (deeds_out, []), (are_deeds_out, [None]), (are_deeds_out, [[]])):
            for value in not_scenes():
                self.check(InvalidScene, value, function, ONCE, ONCE, 2, value, *more)
        for value in not_deeds():
            self.check(InvalidDeeds, value, scene_after, ONCE, ONCE, 2, value)
            self.check(InvalidDeeds, value, plain_talk, ONCE, ONCE, value)
            self.assertIs(are_lost_deeds(ONCE, ONCE, 2, value), False)
            self.assertIs(are_deeds_out(ONCE, ONCE, 2, scene, value), False)
        for value in not_desks():
            self.check(InvalidDesk, value, plain_talk, value, None, None)
            self.check(InvalidDesk, value, plain_talk, ONCE, value, None)

    def test_lines_hold_what_the_size_lets(self):
        for size in (1, 2, 3):
            for first, second in itertools.product(range(5), repeat=2):
                scene = ("a", "a", ("x",) * first, ("y",) * second)
                if max(first, second) > size:
                    self.check(InvalidScene, scene, deeds_at, ONCE, ONCE, size, scene)
                else:
                    self.assertEqual(len(deeds_at(ONCE, ONCE, size, scene)), (first < size) + (second < size))
