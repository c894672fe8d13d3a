"""[105] to [109]: texts, which are read back to the very thing and refused if they are bent."""

import unittest

from endswell.desks import Desk
from endswell.errors import InvalidChange, InvalidDesk, InvalidDesks, InvalidLevels, InvalidTalk, InvalidText
from endswell.papers import change_text, desk_text, desks_text, levels_text, read_change, read_desk, read_desks
from endswell.papers import read_levels, read_talk, talk_text
from tests.helpers import frozen, junk, loop, not_desks, not_talks, random_desk, seeds, shuffled_book, ways
from tests.plain import DONE
from tests.texts import bent_texts, plain_desk_lines, plain_row

END = Desk({"a": DONE}, "a")
READERS = {read_desk: desk_text, read_change: change_text, read_talk: talk_text, read_levels: levels_text,
           read_desks: desks_text}


def random_change(rng):
    desk = random_desk(rng)
    row = rng.choice(list(desk.book().values()))
    names = [rng.choice(["a", "b", "start", "done", "says", "put", "abcdefgh"]) for _ in range(3)]
    return rng.choice([("add", *names), ("drop", *names[:2]), ("lead", *names), ("put", names[0], row),
                       ("out", names[0]), ("begin", names[0])])


def random_levels(rng):
    states = ["s", "t", "start", "a", "done", "abcdefgh"]
    keys = states if rng.random() < 0.5 else [(one, other) for one in states for other in states]
    counts = [0, 1, 9, 10, 10 ** 29]
    return {key: rng.choice(counts) for key in rng.sample(keys, rng.randint(0, 4))}


def things(rng):
    """A thing for each writer."""
    talk = [rng.choice(["no", "yes", "x", "abcdefgh"]) for _ in range(rng.randint(0, 5))]
    return {read_desk: random_desk(rng), read_change: random_change(rng), read_talk: talk,
            read_levels: random_levels(rng), read_desks: [random_desk(rng) for _ in range(rng.randint(0, 3))]}


class Writers(unittest.TestCase):
    def test_desks(self):
        for rng in seeds(100):
            desk = random_desk(rng)
            self.assertEqual(desk_text(desk), "\n".join(plain_desk_lines(desk)))
            self.assertEqual(desk_text(Desk(shuffled_book(rng, desk.book()), desk.start())), desk_text(desk))
        self.assertEqual(desk_text(ways()), "start a\na says go b out t\nb says back a off t\nt done")

    def test_changes(self):
        for rng in seeds(200):
            change = random_change(rng)
            pieces = [piece for part in change for piece in (plain_row(part) if isinstance(part, tuple) else [part])]
            self.assertEqual(change_text(change), " ".join(pieces))
        self.assertEqual([change_text(("put", "u", ("says", {"ok": "s", "no": "u"}))), change_text(("out", "put")),
                          change_text(("drop", "s", "x")), change_text(("add", "s", "x", "t"))],
                         ["put u says no u ok s", "out put", "drop s x", "add s x t"])

    def test_talks(self):
        self.assertEqual([talk_text([]), talk_text(["more"]), talk_text(["more", "stop", "more"])],
                         ["", "more", "more stop more"])

    def test_levels(self):
        self.assertEqual([levels_text({}), levels_text({"t": 10, "s": 0}), levels_text({("t", "s"): 1, ("s",
                                                                                                        "t"): 22})],
                         ["", "s = 0\nt = 10", "s t = 22\nt s = 1"])
        for rng in seeds(100):
            levels = random_levels(rng)
            lines = [" ".join([key] if isinstance(key, str) else key) + f" = {levels[key]}" for key in sorted(levels)]
            self.assertEqual(levels_text(levels), "\n".join(lines))

    def test_lists_of_desks(self):
        for rng in seeds(60):
            desks = [random_desk(rng) for _ in range(rng.randint(0, 4))]
            self.assertEqual(desks_text(desks), "\n\n".join("\n".join(plain_desk_lines(desk)) for desk in desks))
        self.assertEqual([desks_text([]), desks_text([END])], ["", "start a\na done"])


class Readers(unittest.TestCase):
    def test_each_text_is_read_back_to_the_very_thing(self):
        for rng in seeds(250):
            for read, thing in things(rng).items():
                before = frozen(thing)
                given = read(READERS[read](thing))
                self.assertEqual(frozen(thing), before)
                self.assertEqual(given, thing)
                self.assertEqual(type(given), type(thing))
                if isinstance(thing, dict):
                    self.assertEqual(list(given), sorted(thing))

    def test_bent_texts_are_refused_unless_they_are_the_text_of_something_else(self):
        told = {read: [0, 0] for read in READERS}
        for rng in seeds(150):
            for read, thing in things(rng).items():
                for text in bent_texts(rng, READERS[read](thing), 10):
                    self.judge(read, text, told[read])
        self.assertGreater(min(count for counts in told.values() for count in counts), 60)

    def judge(self, read, text, told):
        try:
            other = read(text)
            told[0] += 1
            self.assertEqual(READERS[read](other), text)
        except InvalidText as error:
            told[1] += 1
            self.assertIs(error.value, text)

    def test_wrong_texts(self):
        wrong = {
            read_desk: ["", "start a", "a done", "start a\na done\n", "start b\na done", "start a\na done\na done",
                        "start a\na done x a", "start a\na says", "start a\na says x", "start a\na says x b",
                        "start a\na says x a x a", "start a\na says y a x a", "start a\nb done\na done",
                        "begin a\na done",
                        "start a a\na done", "start  a\na done", " start a\na done", "start a\n\na done", "start a\na",
                        "start a\na Done", "start A\nA done", "start a\n1 done\na done", "start\na done",
                        "\nstart a\na done",
                        "start a\r\na done", "start a\na done ", "start a\na hears abcdefghi a", desks_text([END,
                                                                                                             END])],
            read_change: ["", "add s x", "add s x t u", "drop s", "put", "put u", "put u done x u", "put u says",
                          "put u says x", "put u hears y s x s", "put u hears x s x s", "out", "out s t", "begin",
                          "begin S",
                          "never s", "out  s", "out s ", " out s", "out s\n", "lead s x 1", "put u nods x s",
                          "put u says abcdefghi s", "add\ts x t"],
            read_talk: [" ", "more ", " more", "more  stop", "More", "more\nstop", "abcdefghi", "1", "more,stop", "\n"],
            read_levels: ["s", "s =", "s 1", "= 1", "s = 01", "s = -1", "s = +1", "s = 1\n", "s = 1\n\nt = 1", " s = 1",
                          "t = 0\ns = 1", "s = 1\ns = 1", "s = 1\ns t = 1", "s t u = 1", "s  = 1", "s = 1 ", "s = 1_0",
                          "s = x", "S = 1", "s == 1", "s = 0x1", "s = 1.0", "\n", "s = ", "s = 00", "s t = True",
                          "s - 1", "s = " + "9" * 5000 + "x", "s = " + "9" * 5000 + " "],
            read_desks: ["start a\na done\n", "start a\na done\n\n", "\n\nstart a\na done", "\n", "\n\n",
                         "start a\na done\nstart a\na done", "start a\na done\n\n\nstart a\na done",
                         "start a\n\na done",
                         "start a\na done\n\nstart b\na done"],
        }
        for read, texts in wrong.items():
            right = {read_talk: ["", "s", "a b"], read_levels: [""], read_desks: [""]}.get(read, [])
            others = [thing for thing in not_desks() if not isinstance(thing, str) or thing not in right]
            for text in texts + others + [loop(), ["start a", "a done"], b"start a", [END]]:
                with self.assertRaises(InvalidText) as caught:
                    read(text)
                self.assertIs(caught.exception.value, text)

    def test_a_right_text_of_another_reader_is_refused(self):
        for rng in seeds(60):
            for read, thing in things(rng).items():
                text = READERS[read](thing)
                for other in READERS:
                    if other is not read and text:
                        self.judge(other, text, [0, 0])

    def test_great_desks(self):
        names = [chr(97 + at // 26) + chr(97 + at % 26) for at in range(150)]
        book = {name: ("says", {"on": names[at - 1], "off": names[at // 2]}) for at, name in enumerate(names)}
        desk = Desk(book, "ca")
        self.assertEqual(read_desk(desk_text(desk)), desk)
        self.assertEqual(read_desks(desks_text([desk, END])), [desk, END])


class WrongThings(unittest.TestCase):
    def check(self, error, values, write):
        for value in values:
            before = frozen(value)
            with self.assertRaises(error) as caught:
                write(value)
            self.assertIs(caught.exception.value, value)
            self.assertIs(type(caught.exception), error)
            self.assertEqual(frozen(value), before)

    def test_desks(self):
        self.check(InvalidDesk, not_desks(), desk_text)
        wrong = [(loop(),), [loop(), None], [[loop()]], [loop().book()], {"a": loop()}, [True], loop(), [(loop(),)],
                 ["s"]]
        self.check(InvalidDesks, [thing for thing in junk() if thing != []] + wrong, desks_text)

    def test_changes(self):
        wrong = [["out", "s"], ("out",), ("out", "s", "t"), ("out", "S"), ("out", 1), ("out", True), ("put", "u",
                                                                                                      "done"),
                 ("put", "u", ("done", {"x": "u"})), ("put", "u", ("says", {})), ("put", "u", ["done", {}]),
                 ("put", "u", ("done", [])), ("put", "u", ("says", {"x": 1})), ("never", "s"), "out s", ("out", ["s"]),
                 ("add", "s", "x"), ("drop", "s", "x", "t"), (["out"], "s"), loop(), {"out": "s"}, (None, "s")]
        self.check(InvalidChange, junk() + wrong, change_text)
        self.assertEqual(change_text(("put", "u", ("says", {"x": "never"}))), "put u says x never")

    def test_talks(self):
        self.check(InvalidTalk, not_talks(), talk_text)

    def test_levels(self):
        wrong = [{"s": -1}, {"s": True}, {"s": None}, {"s": "1"}, {"S": 1}, {1: 1}, {("s",): 1}, {("s", "t", "u"): 1},
                 {"s": 1, ("s", "t"): 1}, {("s", "T"): 1}, {("s", 1): 1}, {None: 1}, [("s", 1)], ["s", 1], {"s": [1]},
                 {"": 1}, {("s", "t"): True}, {True: 1}, {(("s", "t"), "t"): 1}, {("s", "t"): {}}, loop(),
                 {"abcdefghi": 1}, {"s": 1, "t": False}]
        self.check(InvalidLevels, [thing for thing in junk() if thing != {}] + wrong, levels_text)
