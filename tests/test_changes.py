"""[12]: changes, their form, and whether they fit."""

import unittest

from endswell.desks import Desk, begun, changed, changed_by
from endswell.errors import InvalidChange, InvalidChanges, InvalidDesk
from tests.helpers import frozen, junk, loop, not_desks, random_desk, seeds

DONE = ("done", {})
BOOK = {"a": ("says", {"x": "b", "y": "a"}), "b": ("hears", {"x": "c"}), "c": DONE, "d": ("says", {"z": "d"})}


def without(book, state):
    return {other: row for other, row in book.items() if other != state}


FITTING = [
    (("add", "a", "z", "a"), {**BOOK, "a": ("says", {"x": "b", "y": "a", "z": "a"})}, "a"),
    (("add", "b", "y", "d"), {**BOOK, "b": ("hears", {"x": "c", "y": "d"})}, "a"),
    (("drop", "a", "x"), {**BOOK, "a": ("says", {"y": "a"})}, "a"),
    (("drop", "a", "y"), {**BOOK, "a": ("says", {"x": "b"})}, "a"),
    (("lead", "a", "x", "d"), {**BOOK, "a": ("says", {"x": "d", "y": "a"})}, "a"),
    (("lead", "b", "x", "b"), {**BOOK, "b": ("hears", {"x": "b"})}, "a"),
    (("put", "e", DONE), {**BOOK, "e": DONE}, "a"),
    (("put", "e", ("says", {"x": "e"})), {**BOOK, "e": ("says", {"x": "e"})}, "a"),
    (("put", "e", ("hears", {"x": "e", "y": "a"})), {**BOOK, "e": ("hears", {"x": "e", "y": "a"})}, "a"),
    (("out", "d"), without(BOOK, "d"), "a"),
    (("begin", "b"), BOOK, "b"),
    (("begin", "d"), BOOK, "d"),
]
UNFIT = [
    ("add", "e", "x", "a"), ("add", "c", "x", "a"), ("add", "a", "x", "b"), ("add", "a", "x", "a"),
    ("add", "a", "z", "e"),
    ("drop", "e", "x"), ("drop", "c", "x"), ("drop", "a", "z"), ("drop", "b", "x"), ("drop", "b", "y"),
    ("lead", "e", "x", "a"), ("lead", "c", "x", "a"), ("lead", "a", "z", "b"), ("lead", "a", "x", "b"),
    ("lead", "a", "x", "e"), ("put", "a", DONE), ("put", "c", DONE), ("put", "e", ("says", {"x": "f"})),
    ("put", "e", ("hears", {"x": "a", "y": "f"})), ("out", "e"), ("out", "a"), ("out", "b"), ("out", "c"),
    ("begin", "e"), ("begin", "a"), ("begin", "x"),
]


def not_changes():
    """No changes by their form."""
    good = [change for change, _, _ in FITTING]
    wrong = [list(change) for change in good] + [change[:-1] for change in good] + [change + ("a",) for change in good]
    wrong += [(thing,) + change[1:] for change in good for thing in (None, True, ["add"], "Add", "adds", "", (), {})]
    for change in good:
        for at in range(1, len(change)):
            for thing in (None, True, 1, "", "A", "a b", "abcdefghi", ["a"], ("a",), {}, [], loop()):
                wrong.append(change[:at] + (thing,) + change[at + 1:])
    rows = [
        ["done", {}], ("done",), ("done", {"x": "a"}), ("done", []), ("done", None), ("says", {}), ("hears", {}),
        ("says", {"x": "A"}), ("says", {"X": "a"}), ("says", {1: "a"}), ("says", {"x": None}), ("says", {"x": ["a"]}),
        ("says", [("x", "a")]), ("tells", {"x": "a"}), (None, {"x": "a"}), ("says", {"x": "a"}, 1), "done",
        {"done": {}},
        ("says", {"x": "a", "y": ""}), ("says", {"x": True}), ({}, {}),
    ]
    swapped = [("drop", "a", "x", "b"), ("add", "a", "z"), ("begin", "b", "b"), ("out", "d", "d")]
    swapped += [("put", "e", "done", {}), ("put", "e", {}, "done")]
    return junk() + wrong + [("put", "e", row) for row in rows] + swapped + ["begin", {"begin": "b"}, loop()]


class OneChange(unittest.TestCase):
    def test_each_that_fits(self):
        for change, book, start in FITTING:
            self.assertEqual(frozen(changed(Desk(BOOK, "a"), change)), frozen(Desk(book, start)), change)

    def test_some_that_do_not_fit(self):
        for change in UNFIT:
            with self.assertRaises(InvalidChange) as caught:
                changed(Desk(BOOK, "a"), change)
            self.assertIs(caught.exception.value, change)

    def test_what_is_no_change(self):
        for thing in not_changes():
            with self.assertRaises(InvalidChange) as caught:
                changed(Desk(BOOK, "a"), thing)
            self.assertIs(caught.exception.value, thing)

    def test_the_start_is_that_of_the_desk(self):
        with self.assertRaises(InvalidChange):
            changed(Desk(BOOK, "d"), ("out", "d"))
        with self.assertRaises(InvalidChange):
            changed(Desk(BOOK, "d"), ("begin", "d"))
        made = changed(Desk(BOOK, "d"), ("put", "e", DONE))
        self.assertEqual(made, Desk({**BOOK, "e": DONE}, "d"))
        self.assertEqual(changed(Desk(BOOK, "d"), ("begin", "a")), Desk(BOOK, "a"))

    def test_out_though_it_leads_to_itself(self):
        desk = Desk({"a": DONE, "b": ("hears", {"x": "b", "y": "a"})}, "a")
        self.assertEqual(changed(desk, ("out", "b")), Desk({"a": DONE}, "a"))
        led = Desk({"a": DONE, "b": DONE, "c": ("says", {"x": "a", "y": "b"})}, "a")
        with self.assertRaises(InvalidChange):
            changed(led, ("out", "b"))
        self.assertEqual(changed(begun(led, "b"), ("out", "c")), Desk({"a": DONE, "b": DONE}, "b"))

    def test_the_desk_is_told_first(self):
        for thing in not_desks():
            for function, then in ((changed, ("begin", 1)), (changed_by, None)):
                with self.assertRaises(InvalidDesk) as caught:
                    function(thing, then)
                self.assertIs(caught.exception.value, thing)

    def test_the_desk_and_the_change_stay_as_they_were(self):
        desk = Desk(BOOK, "a")
        before = frozen(desk)
        for change, book, start in FITTING:
            told = frozen(change)
            changed(desk, change)
            self.assertEqual((frozen(desk), frozen(change)), (before, told))
        for change in UNFIT:
            with self.assertRaises(InvalidChange):
                changed(desk, change)
            self.assertEqual(frozen(desk), before)

    def test_a_row_that_was_passed_may_change(self):
        turns = {"x": "e"}
        made = changed(Desk(BOOK, "a"), ("put", "e", ("says", turns)))
        many = changed_by(Desk(BOOK, "a"), [("put", "e", ("says", turns))])
        turns["y"] = "e"
        self.assertEqual(made.book()["e"], ("says", {"x": "e"}))
        self.assertEqual(many.book()["e"], ("says", {"x": "e"}))


class ManyChanges(unittest.TestCase):
    def test_one_after_the_other(self):
        changes = [("put", "e", DONE), ("lead", "d", "z", "e"), ("begin", "d"), ("drop", "a", "y")]
        book = {**BOOK, "e": DONE, "d": ("says", {"z": "e"}), "a": ("says", {"x": "b"})}
        self.assertEqual(frozen(changed_by(Desk(BOOK, "a"), changes)), frozen(Desk(book, "d")))
        made = Desk(BOOK, "a")
        for change in changes:
            made = changed(made, change)
        self.assertEqual(changed_by(Desk(BOOK, "a"), changes), made)

    def test_none(self):
        self.assertEqual(frozen(changed_by(Desk(BOOK, "a"), [])), frozen(Desk(BOOK, "a")))

    def test_the_first_that_does_not_fit_is_told(self):
        fits, unfit = ("begin", "b"), ("begin", "b")
        with self.assertRaises(InvalidChange) as caught:
            changed_by(Desk(BOOK, "a"), [fits, unfit, ("begin", "zz")])
        self.assertEqual(caught.exception.value, unfit)
        for change in UNFIT:
            with self.assertRaises(InvalidChange) as caught:
                changed_by(Desk(BOOK, "a"), [("add", "d", "other", "d"), change, ("begin", "zz")])
            self.assertIs(caught.exception.value, change)

    def test_it_is_held_against_what_those_ahead_of_it_made(self):
        changes = [("add", "d", "x", "d"), ("drop", "d", "z"), ("begin", "d")]
        made = changed_by(Desk(BOOK, "a"), changes)
        self.assertEqual(made, Desk({**BOOK, "d": ("says", {"x": "d"})}, "d"))
        with self.assertRaises(InvalidChange) as caught:
            changed_by(Desk(BOOK, "a"), [changes[1], changes[0]])
        self.assertIs(caught.exception.value, changes[1])
        out = [("begin", "d"), ("out", "a"), ("out", "b"), ("out", "c")]
        self.assertEqual(changed_by(Desk({**BOOK, "a": ("says", {"x": "b"})}, "a"), out), Desk({"d": BOOK["d"]}, "d"))

    def test_what_is_no_list_of_changes(self):
        good = ("begin", "b")
        lists = [[thing] for thing in not_changes()] + [[good, thing] for thing in not_changes()]
        lists += [[("begin", "zz"), thing] for thing in not_changes()]
        for thing in [bad for bad in junk() if bad != []] + lists + [(good,), (), good, {0: good}, "begin", loop()]:
            with self.assertRaises(InvalidChanges) as caught:
                changed_by(Desk(BOOK, "a"), thing)
            self.assertIs(caught.exception.value, thing)

    def test_the_list_stays_as_it_was(self):
        desk, changes = Desk(BOOK, "a"), [("put", "e", ("says", {"x": "a"})), ("begin", "e")]
        before = (frozen(desk), frozen(changes))
        changed_by(desk, changes)
        self.assertEqual((frozen(desk), frozen(changes)), before)

    def test_against_the_words_of_the_document(self):
        many = 0
        for rng in seeds(400):
            desk = random_desk(rng)
            change = random_change(rng)
            if plainly_fits(desk.book(), desk.start(), change):
                many += 1
                self.assertEqual(frozen(changed(desk, change)), frozen(plainly_made(desk, change)))
            else:
                with self.assertRaises(InvalidChange):
                    changed(desk, change)
        self.assertGreater(many, 80)


def random_change(rng):
    state, goal, word = rng.choice("abcd"), rng.choice("abcd"), rng.choice(["no", "x", "yes"])
    row = rng.choice([DONE, ("says", {word: goal}), ("hears", {word: goal, "z": state})])
    return rng.choice([
        ("add", state, word, goal), ("drop", state, word), ("lead", state, word, goal), ("put", state, row),
        ("out", state), ("begin", state),
    ])


def plainly_fits(book, start, change):
    word, state = change[:2]
    there = state in book
    if word == "put":
        return not there and set(change[2][1].values()) <= set(book) | {state}
    if not there:
        return False
    kind, turns = book[state]
    if word == "add":
        return kind != "done" and change[2] not in turns and change[3] in book
    if word == "drop":
        return change[2] in turns and set(turns) != {change[2]}
    if word == "lead":
        return change[2] in turns and change[3] in book and turns[change[2]] != change[3]
    if word == "out":
        return state != start and state not in {g for s in book if s != state for g in book[s][1].values()}
    return state != start


def plainly_made(desk, change):
    book, start = desk.book(), desk.start()
    if change[0] in ("add", "lead"):
        book[change[1]][1][change[2]] = change[3]
    elif change[0] == "drop":
        del book[change[1]][1][change[2]]
    elif change[0] == "put":
        book[change[1]] = change[2]
    elif change[0] == "out":
        del book[change[1]]
    else:
        start = change[1]
    return Desk(book, start)
