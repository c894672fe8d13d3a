"""[10], [11], [13] to [16]: words, books, desks, and what is made of one."""

import unittest

from endswell.desks import Desk, begun, come_to, is_book, is_word, kind_of, renamed, states_of, trimmed, turned
from endswell.desks import turns_of, words_of
from endswell.errors import InvalidBook, InvalidDesk, InvalidNames, InvalidState
from tests.helpers import frozen, junk, loop, not_desks, not_states, random_desk, seeds, shuffled_book

DONE = ("done", {})


def not_books():
    rows = [
        None, True, "done", [], (), ["done", {}], ("done",), ("done", {}, {}), ("Done", {}), ("does", {}), (None, {}),
        (["says"], {"x": "s"}), (True, {"x": "s"}), ({}, {}), ("done", None), ("done", []), ("done", ()),
        ("done", False),
        ("done", {"x": "s"}), ("says", {}), ("hears", {}), ("says", None), ("says", [("x", "s")]),
        ("says", (("x", "s"),)),
        ("says", ["x"]), ("says", "x"), ("hears", {"x": "zz"}), ("says", {"x": "zz"}), ("says", {"X": "s"}),
        ("says", {"": "s"}), ("hears", {"abcdefghi": "s"}), ("hears", {1: "s"}), ("hears", {None: "s"}),
        ("says", {("x",): "s"}), ("says", {"x": None}), ("says", {"x": ["s"]}), ("says", {"x": ("s",)}),
        ("says", {"x": {}}), ("says", {"x": 1}), ("says", {"x": True}), ("says", {"x": "S"}), ("says", {"x": ""}),
        ("says", {"x": "s", "y": "zz"}), ("hears", {"x": "s", "y z": "s"}), ({"x": "s"}, "says"), loop(),
    ]
    names = ["", "S", "s1", "s ", "abcdefghi", None, True, 1, 0, ("s",), ()]
    books = [{"s": row} for row in rows] + [{"s": DONE, "t": row} for row in rows]
    books += [{name: DONE} for name in names] + [{"s": DONE, name: DONE} for name in names]
    return junk() + books + [loop(), [("s", DONE)], (("s", DONE),), ["s"], "s"]


class WordsAndBooks(unittest.TestCase):
    def test_words(self):
        for word in ("a", "z", "ab", "zz", "hello", "abcdefgh", "stuvwxyz", "ijklmnop", "qr"):
            self.assertIs(is_word(word), True, word)

    def test_what_is_no_word(self):
        wrong = ["aB", "A", "Z", "a1", "1", "a-b", "a_b", "_", "`", "{", " a", "a ", "a\t", "\n", "ab\n", "a."]
        wrong += ["zzzzzzzzz", "abcdefgh ", "a" * 100]
        for thing in junk() + wrong + [["a"], ("a",), {"a": "a"}, loop()]:
            self.assertIs(is_word(thing), False, thing)

    def test_books(self):
        for book in (
            {"s": DONE}, {"s": ("says", {"x": "s"})}, {"s": ("hears", {"x": "s"})}, loop().book(),
            {"abcdefgh": ("hears", {"abcdefgh": "abcdefgh", "x": "s"}), "s": DONE},
            {"a": ("says", {"a": "b", "b": "a"}), "b": ("hears", {"c": "b"}), "c": DONE, "d": DONE},
        ):
            self.assertIs(is_book(book), True, book)

    def test_what_is_no_book(self):
        for thing in not_books():
            self.assertIs(is_book(thing), False, thing)


class TheDesk(unittest.TestCase):
    def test_book_and_start(self):
        desk = Desk({"b": ("hears", {"y": "b", "x": "a"}), "c": DONE, "a": ("says", {"no": "c", "go": "b"})}, "c")
        told = {"a": ("says", {"go": "b", "no": "c"}), "b": ("hears", {"x": "a", "y": "b"}), "c": DONE}
        self.assertEqual(frozen(desk.book()), frozen(told))
        self.assertEqual(desk.start(), "c")

    def test_books_of_any_order(self):
        for rng in seeds(60):
            desk = random_desk(rng)
            book = shuffled_book(rng, desk.book())
            other = Desk(book, desk.start())
            self.assertEqual(frozen(other.book()), frozen(desk.book()))
            self.assertEqual(list(other.book()), sorted(book))
            for state, (kind, turns) in other.book().items():
                self.assertEqual((kind, list(turns)), (book[state][0], sorted(book[state][1])))
            self.assertTrue(desk == other)
            self.assertFalse(desk != other)

    def test_desks_are_equal_if_both_are(self):
        desk = loop()
        self.assertTrue(desk == loop())
        self.assertFalse(desk == Desk(desk.book(), "t"))
        self.assertFalse(desk == Desk({"s": ("hears", {"stop": "t", "more": "s"}), "t": DONE}, "s"))
        self.assertFalse(desk == Desk({"s": ("says", {"stop": "t", "more": "t"}), "t": DONE}, "s"))
        self.assertFalse(desk == Desk({"s": ("says", {"stop": "t"}), "t": DONE}, "s"))
        self.assertFalse(desk == Desk({**desk.book(), "u": DONE}, "s"))
        self.assertTrue(desk != Desk(desk.book(), "t"))

    def test_a_desk_is_no_other_thing(self):
        desk = loop()
        for thing in junk() + [desk.book(), (desk.book(), "s"), [desk], "s"]:
            self.assertIs(desk == thing, False)
            self.assertIs(thing == desk, False)
            self.assertIs(desk != thing, True)

    def test_a_desk_is_made_of_a_book(self):
        for thing in not_books():
            for start in ("s", "zz", None, ["s"]):
                with self.assertRaises(InvalidBook) as caught:
                    Desk(thing, start)
                self.assertIs(caught.exception.value, thing)

    def test_a_desk_is_made_of_a_state(self):
        for thing in not_states() + ["more", "stop"]:
            with self.assertRaises(InvalidState) as caught:
                Desk(loop().book(), thing)
            self.assertIs(caught.exception.value, thing)

    def test_what_was_passed_is_not_the_desk(self):
        turns = {"x": "s"}
        book = {"s": ("says", turns), "t": DONE}
        desk = Desk(book, "s")
        turns["y"] = "t"
        book["u"] = ("done", {})
        del book["t"]
        self.assertEqual(desk.book(), {"s": ("says", {"x": "s"}), "t": ("done", {})})
        self.assertEqual(turns, {"x": "s", "y": "t"})

    def test_what_was_returned_is_not_the_desk(self):
        desk = loop()
        book = desk.book()
        book["s"][1]["x"] = "s"
        book["t"][1]["x"] = "s"
        del book["t"]
        turns_of(desk, "s").clear()
        states_of(desk).clear()
        self.assertEqual(desk.book(), {"s": ("says", {"more": "s", "stop": "t"}), "t": ("done", {})})
        self.assertEqual(turns_of(desk, "t"), {})
        self.assertIsNot(desk.book(), desk.book())


class WhatADeskTells(unittest.TestCase):
    def test_states_kinds_turns_and_words(self):
        for rng in seeds(60):
            desk = random_desk(rng)
            book = shuffled_book(rng, desk.book())
            desk = Desk(book, desk.start())
            self.assertEqual(states_of(desk), sorted(book))
            self.assertEqual(words_of(desk), sorted({word for row in book.values() for word in row[1]}))
            for state, (kind, turns) in book.items():
                self.assertEqual(kind_of(desk, state), kind)
                self.assertEqual(list(turns_of(desk, state).items()), sorted(turns.items()))

    def test_also_of_states_that_are_not_come_to(self):
        desk = Desk({"t": DONE, "z": ("hears", {"b": "t", "a": "z"}), "c": ("says", {"d": "c"})}, "t")
        self.assertEqual(states_of(desk), ["c", "t", "z"])
        self.assertEqual(words_of(desk), ["a", "b", "d"])
        self.assertEqual([kind_of(desk, state) for state in "ctz"], ["says", "done", "hears"])
        self.assertEqual(words_of(Desk({"t": DONE}, "t")), [])

    def test_states_come_to(self):
        for rng in seeds(100):
            desk = random_desk(rng)
            book = desk.book()
            come = {desk.start()}
            for _ in book:
                come |= {goal for state in come for goal in book[state][1].values()}
            self.assertEqual(come_to(desk), sorted(come))
            self.assertEqual(frozen(trimmed(desk)), frozen(Desk({s: book[s] for s in come}, desk.start())))

    def test_a_start_that_nothing_leads_to_is_come_to(self):
        desk = Desk({"z": ("says", {"x": "a"}), "a": DONE, "b": ("says", {"x": "z"})}, "z")
        self.assertEqual(come_to(desk), ["a", "z"])
        self.assertEqual(trimmed(desk).book(), {"a": DONE, "z": ("says", {"x": "a"})})
        self.assertEqual(come_to(begun(desk, "a")), ["a"])
        self.assertEqual(desk.start(), "z")

    def test_turned(self):
        book = {"a": ("says", {"x": "b", "y": "c"}), "b": ("hears", {"x": "a"}), "c": DONE}
        other = {"a": ("hears", {"x": "b", "y": "c"}), "b": ("says", {"x": "a"}), "c": DONE}
        for start in "abc":
            self.assertEqual(frozen(turned(Desk(book, start))), frozen(Desk(other, start)))
            self.assertEqual(turned(turned(Desk(book, start))), Desk(book, start))

    def test_begun(self):
        for rng in seeds(20):
            desk = random_desk(rng)
            for state in states_of(desk):
                self.assertEqual(frozen(begun(desk, state)), frozen(Desk(desk.book(), state)))


class WrongArguments(unittest.TestCase):
    def test_the_desk_is_told_first(self):
        for thing in not_desks():
            for function in (states_of, words_of, come_to, trimmed, turned):
                with self.assertRaises(InvalidDesk) as caught:
                    function(thing)
                self.assertIs(caught.exception.value, thing)
            for function in (kind_of, turns_of, begun, renamed):
                for other in ("s", None, {"s": "a", "t": "b"}):
                    with self.assertRaises(InvalidDesk) as caught:
                        function(thing, other)
                    self.assertIs(caught.exception.value, thing)

    def test_states(self):
        for thing in not_states() + ["more", "stop"]:
            for function in (kind_of, turns_of, begun):
                with self.assertRaises(InvalidState) as caught:
                    function(loop(), thing)
                self.assertIs(caught.exception.value, thing)


class NewNames(unittest.TestCase):
    def test_renamed(self):
        for rng in seeds(60):
            desk = random_desk(rng)
            book = desk.book()
            new = rng.sample(["a", "b", "c", "d", "abcdefgh", "zz", "no"], len(book))
            names = dict(zip(rng.sample(sorted(book), len(book)), new))
            told = {names[s]: (k, {w: names[g] for w, g in turns.items()}) for s, (k, turns) in book.items()}
            made = renamed(desk, names)
            self.assertEqual(frozen(made), frozen(Desk(told, names[desk.start()])))
            back = {name: state for state, name in names.items()}
            self.assertEqual(frozen(renamed(made, back)), frozen(desk))

    def test_names_may_change_places_or_stay(self):
        self.assertEqual(renamed(loop(), {"s": "s", "t": "t"}), loop())
        swapped = Desk({"t": ("says", {"more": "t", "stop": "s"}), "s": DONE}, "t")
        self.assertEqual(renamed(loop(), {"s": "t", "t": "s"}), swapped)

    def test_what_are_no_new_names(self):
        wrong = [
            {"s": "a"}, {"t": "a"}, {"s": "a", "t": "a"}, {"s": "a", "t": "b", "u": "c"}, {"s": "a", "u": "b"},
            {"s": "a", "t": "B"}, {"s": "a", "t": ""}, {"s": "a", "t": None}, {"s": "a", "t": 1},
            {"s": "a", "t": ["b"]},
            {"s": ["a"], "t": "b"}, {"s": "a", "t": ("b",)}, {"s": "a", "t": "abcdefghi"}, {"s": True, "t": "b"},
            {"s": "a", 1: "b"}, {"s": "a", ("t",): "b"}, [("s", "a"), ("t", "b")], (("s", "a"), ("t", "b")), ["a", "b"],
            ("a", "b"), "ab", {"a": "s", "b": "t"}, {"s": "a", "t": "b", "u": "a"}, {"s": "a", "t": "b", 1: "b"},
            {"s": {}, "t": {}}, {"s": "a", "t": "b", None: "c"}, loop(),
        ]
        for thing in junk() + wrong:
            with self.assertRaises(InvalidNames) as caught:
                renamed(loop(), thing)
            self.assertIs(caught.exception.value, thing)

    def test_names_that_were_passed_may_change(self):
        names = {"s": "a", "t": "b"}
        made = renamed(loop(), names)
        names["s"] = "c"
        self.assertEqual(made.start(), "a")
        self.assertEqual(states_of(made), ["a", "b"])
