"""Desks, wrong objects, and slow but plain answers that the tests compare with."""

import itertools
import random

from endswell.desks import Desk
from endswell.errors import DeskError, InvalidWord


def loop():
    return Desk({"s": ("says", {"stop": "t", "more": "s"}), "t": ("done", {})}, "s")


def ways():
    book = {"a": ("says", {"go": "b", "out": "t"}), "b": ("says", {"back": "a", "off": "t"}), "t": ("done", {})}
    return Desk(book, "a")


def short():
    return Desk({"a": ("says", {"go": "b"}), "b": ("hears", {"no": "t", "yes": "t"}), "t": ("done", {})}, "a")


def all_ear():
    heard = {"back": "p", "go": "p", "more": "p", "off": "q", "out": "q", "stop": "q"}
    return Desk({"p": ("hears", heard), "q": ("done", {})}, "p")


def deaf():
    return Desk({"p": ("hears", {"more": "p"}), "q": ("done", {})}, "p")


def junk():
    """Objects that are no desk, no word, no talk but [], and no count but 0, 1 and the great one."""
    return [
        None, True, False, 0, 1, -1, 10 ** 29, "", "A", "a b", "abcdefghi", "s\n", "\t", [], [[]], [None], ["s", 1],
        (), ((),), ("S",), (1, 2), {}, {1: 2}, {"s": None}, {(): []}, {None: True}, DeskError(), InvalidWord("s"),
    ]


def not_desks():
    book = {"s": ("done", {})}
    return junk() + ["s", book, (book, "s"), [book, "s"], [Desk(book, "s")], (Desk(book, "s"),)]


def not_states():
    return junk() + ["zz", ["s"], ("s",), {"s": "s"}, loop()]


def not_pairs():
    """No pairs of the states s, t and p, q."""
    wrong = [
        "sp", ["s", "p"], ("s",), ("s", "p", "p"), ("p", "s"), ("s", "s"), ("p", "p"), ("s", "zz"), ("zz", "p"),
        ("s", None), (None, "p"), (["s"], "p"), ("s", ["p"]), ("s", {}), (("s",), "p"), ("s", 1), {"s": "p"},
        (("s", "p"),), loop(),
    ]
    return junk() + wrong


def not_talks():
    wrong = [
        "more", ("more",), (), ["more", 1], [True], ["More"], ["more", ""], [["more"]], [("more",)], {"more": 1},
        ["more", None], ["abcdefghi"], ["a b"], ["more\n"], loop(), [loop()],
    ]
    return [thing for thing in junk() if thing != [] or not isinstance(thing, list)] + wrong


def not_counts():
    wrong = ["1", "0", [1], (1,), (0,), [0], {0: 0}, -(10 ** 29), loop()]
    return [thing for thing in junk() if isinstance(thing, bool) or not isinstance(thing, int) or thing < 0] + wrong


def frozen(value):
    """A text that tells all of a value, the order of dictionaries and the difference of 1 and True, too."""
    if isinstance(value, Desk):
        return f"Desk({value.book()!r}, {value.start()!r})"
    if isinstance(value, dict):
        return "{" + ", ".join(f"{frozen(key)}: {frozen(item)}" for key, item in value.items()) + "}"
    if isinstance(value, list):
        return "[" + ", ".join(frozen(item) for item in value) + "]"
    if isinstance(value, tuple):
        return "(" + ", ".join(frozen(item) for item in value) + ",)"
    return repr(value)


def spoil(value):
    """Change all lists and dictionaries within a value."""
    if isinstance(value, (list, tuple)):
        for item in value:
            spoil(item)
    if isinstance(value, dict):
        for item in value.values():
            spoil(item)
        value.clear()
        value["spoilt"] = "spoilt"
    if isinstance(value, list):
        value.append("spoilt")
        value.reverse()


def shuffled_book(rng, book):
    """The same book, in another order."""
    states = list(book)
    rng.shuffle(states)
    other = {}
    for state in states:
        kind, turns = book[state]
        words = list(turns)
        rng.shuffle(words)
        other[state] = (kind, {word: turns[word] for word in words})
    return other


def random_book(rng, states, words, kinds=("says", "hears", "done")):
    book = {}
    for state in states:
        kind = rng.choice(kinds)
        some = rng.sample(words, rng.randint(1, len(words)))
        book[state] = (kind, {} if kind == "done" else {word: rng.choice(states) for word in some})
    return book


def random_desk(rng, states="abcd", words=("no", "x", "yes"), kinds=("says", "hears", "done")):
    some = list(states)[:rng.randint(1, len(states))]
    rng.shuffle(some)
    return Desk(random_book(rng, some, list(words), kinds), rng.choice(some))


def random_two(rng, most=3):
    """Two desks, often such that the one hears what the other one says."""
    one = random_desk(rng, "abc"[:most])
    if rng.random() < 0.4:
        return one, random_desk(rng, "pqr"[:most])
    swap = {"says": "hears", "hears": "says", "done": "done"}
    names = dict(zip("abc", "pqr"))
    book = {names[s]: (swap[k], {w: names[g] for w, g in t.items()}) for s, (k, t) in one.book().items()}
    for state in list(book):
        kind, turns = book[state]
        if kind == "hears" and rng.random() < 0.7:
            book[state] = (kind, {**turns, rng.choice(["no", "x", "yes"]): rng.choice(list(book))})
        elif rng.random() < 0.2:
            book[state] = ("done", {})
    return one, Desk(book, names[one.start()])


def seeds(many):
    return [random.Random(seed) for seed in range(many)]


def all_rows(words, most):
    """All lists of words of up to so many, the shorter ones first, ascending."""
    return [list(row) for size in range(most + 1) for row in itertools.product(sorted(words), repeat=size)]


def walked(book, state, talk):
    """The state behind a talk, None if there is none."""
    for word in talk:
        if word not in book[state][1]:
            return None
        state = book[state][1][word]
    return state


def plain_kind(book, face, pair):
    """What [23] says of a pair, and its next pairs."""
    (first, mine), (second, yours) = book[pair[0]], face[pair[1]]
    if first == "done" and second == "done":
        return "ended", {}
    if first == "says" and second == "hears" and set(mine) <= set(yours):
        return "goes on", {word: (mine[word], yours[word]) for word in sorted(mine)}
    if first == "hears" and second == "says" and set(yours) <= set(mine):
        return "goes on", {word: (mine[word], yours[word]) for word in sorted(yours)}
    return "stuck", {}


class Plain:
    """Two desks facing, told as plainly as can be."""

    def __init__(self, one, other):
        self.book, self.face = one.book(), other.book()
        self.first = (one.start(), other.start())
        self.pairs = [(a, b) for a in self.book for b in self.face]
        self.kind = {pair: plain_kind(self.book, self.face, pair)[0] for pair in self.pairs}
        self.nexts = {pair: plain_kind(self.book, self.face, pair)[1] for pair in self.pairs}
        self.words = sorted({w for book in (self.book, self.face) for row in book.values() for w in row[1]})
        self.come = self.closed(self.first)
        self.well = all(self.least_out(pair) is not None for pair in self.come)

    def closed(self, pair):
        """All pairs that can be come to from a pair, ascending."""
        found = {pair}
        for _ in self.pairs:
            found |= {later for earlier in found for later in self.nexts[earlier].values()}
        return sorted(found)

    def behind(self, talk, pair=None):
        pair = self.first if pair is None else pair
        for word in talk:
            if word not in self.nexts[pair]:
                return None
            pair = self.nexts[pair][word]
        return pair

    def least(self, goals, pair):
        """The least number of words from a pair to one of the goals, None if there is none."""
        found = {pair}
        for many in range(len(self.pairs) + 1):
            if found & set(goals):
                return many
            found = {later for earlier in found for later in self.nexts[earlier].values()}
        return None

    def of_kind(self, kind):
        return [pair for pair in self.pairs if self.kind[pair] == kind]

    def least_out(self, pair):
        return self.least(self.of_kind("ended"), pair)
