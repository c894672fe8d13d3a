"""[100] to [103]: scripts that are played, written, read and shortened."""

import unittest

from endswell.desks import Desk, turned
from endswell.errors import DeskError, InvalidHall, InvalidScript, InvalidText
from endswell.hall import Hall
from endswell.scripts import end_of, play, read_script, script_text, shortened
from tests.halls import EAR, LOOP, QUICK, PlainHall, random_command, rngs, told_by
from tests.helpers import frozen, junk, random_desk
from tests.plain import DONE
from tests.test_hall import moment
from tests.texts import bent_texts, plain_desk_lines

FIRST = Desk({"start": ("says", {"hi": "z"}), "z": DONE}, "start")


def random_script(rng, most=12, deep=0, plain=None):
    """A script of at most so many commands, those within tries among them, most of which are let."""
    plain = plain or PlainHall()
    script = []
    while most > 0 and rng.random() < 0.93:
        chosen = rng.random()
        if chosen < 0.1 and deep < 3:
            inner = random_script(rng, rng.randint(0, most - 1), deep + 1, plain.copy())
            script.append(("try", inner))
            most -= len(commands_in(inner))
        elif chosen < 0.22:
            script.append((rng.choice(["undo", "redo"]),))
            if plain.made and script[-1] == ("undo",):
                plain.undo()
            elif plain.undone and script[-1] == ("redo",):
                plain.redo()
        elif chosen < 0.4:
            place = rng.randint(0, 2)
            script.append(rng.choice([("words", place), ("ends", place), ("states", place, rng.choice([LOOP, QUICK]))]))
        else:
            command = random_command(rng, plain)
            script.append(command)
            if plain.refuses(command) is None:
                plain.make(command)
        most -= 1
    return script


def commands_in(script):
    """All commands of a script, those within tries among them."""
    return [inner for command in script
            for inner in [command] + (commands_in(command[1]) if command[0] == "try" else [])]


def played_plainly(hall, script):
    """What [101] says."""
    told = []
    for word, *things in script:
        if word == "try":
            told.append(("tried", hall.attempt(lambda same, inner=things[0]: played_plainly(same, inner))))
            continue
        method = {"ends": "still_ends", "states": "states_for"}.get(word, word)
        says = {"seat": "seated", "go_on": "pair"}.get(word, word)
        try:
            given = getattr(hall, method)(*things)
            told.append((says, given) if says in ("seated", "pair", "words", "ends", "states") else ("done",))
        except DeskError as error:
            told.append(("refused", type(error).__name__))
    return told


def written_plainly(script, margin=""):
    """The lines of a script, as [102] tells them."""
    lines = []
    for word, *things in script:
        lines.append(margin + " ".join([word] + [str(thing) for thing in things if isinstance(thing, (int, str))]))
        for thing in things:
            if isinstance(thing, Desk):
                lines += [margin + "  " + line for line in plain_desk_lines(thing)] + [margin + "end"]
            if isinstance(thing, list):
                lines += written_plainly(thing, margin + "  ") + [margin + "end"]
    return lines


class Played(unittest.TestCase):
    def test_what_is_said(self):
        found = {}
        for rng in rngs(250):
            script = random_script(rng)
            before = frozen(script)
            one, other = Hall(), Hall()
            said = play(one, script)
            self.assertEqual(said, played_plainly(other, script))
            self.assertEqual(moment(one), moment(other))
            self.assertEqual(frozen(script), before)
            for word, *things in said:
                key = (word,) + (tuple(things) if word == "refused" else ())
                found[key] = found.get(key, 0) + 1
        wanted = [("seated",), ("pair",), ("words",), ("states",), ("ends",), ("tried",), ("done",)]
        wanted += [("refused", name) for name in ("InvalidSpot", "InvalidState", "Refused", "NothingToUndo",
                                                  "NothingToRedo")]
        self.assertEqual(set(found), set(wanted))
        self.assertGreater(min(found.values()), 3, found)

    def test_the_hall_that_is_passed_is_changed(self):
        hall = Hall()
        hall.seat(LOOP, EAR)
        self.assertEqual(play(hall, [("go_on", 0, "more"), ("try", [("undo",), ("undo",), ("undo",)]), ("undo",)]),
                         [("pair", ("s", "p")), ("tried", [("done",), ("done",), ("refused", "NothingToUndo")]),
                          ("done",)])
        self.assertEqual([hall.talk(0), len(hall.log())], [[], 1])
        self.assertEqual([play(hall, []), play(hall, [("redo",), ("redo",)])],
                         [[], [("done",), ("refused", "NothingToRedo")]])

    def test_what_was_returned_may_be_changed(self):
        hall = Hall()
        script = [("seat", LOOP, EAR), ("words", 0), ("ends", 0), ("states", 0, LOOP), ("try", [("words", 0)])]
        said = play(hall, script)
        for _, thing in said[1:]:
            thing.clear()
        self.assertEqual(play(hall, script[1:]),
                         [("words", ["more", "stop"]), ("ends", ["stop"]), ("states", ["s"]),
                          ("tried", [("words", ["more", "stop"])])])


def not_scripts():
    wrong = [
        (("undo",),), [["undo"]], ("undo",), [("undo", 0)], [("never",)], [()], [None], [("undo",), None], [("seat",
                                                                                                             LOOP)],
        [("seat", LOOP, EAR, EAR)], [("seat", LOOP, None)], [("seat", LOOP.book(), EAR)], [("go_on", 0, "More")],
        [("go_on", True, "more")], [("go_on", -1, "more")], [("go_on", "0", "more")], [("go_on", 0, None)],
        [("go_on", "more", 0)], [("leave",)], [("leave", False)], [("exchange", 0, "s", LOOP)], [("exchange", 0, LOOP)],
        [("exchange", 0, LOOP, 1)], [("risk", 0, LOOP, "")], [("risk", 0, None, "s")], [("renew", 0, "s")],
        [("renew", LOOP, 0)], [("swap", 0)], [("swap", 0, True)], [("turn", None)], [("words",)], [("ends", 0, 0)],
        [("states", 0)], [("states", 0, "s")], [("try",)], [("try", None)], [("try", ("undo",))], [("try", [None])],
        [("try", [("try", [("leave", True)])])], [("try", [], [])], [("try", (("undo",),))], [("Undo",)], [(1,)],
        [(["undo"],)], [({},)], {("undo",): 1}, LOOP, "undo", [("still_ends", 0)], [("log",)], [("undo",), ("undo", 1)],
        [[("undo",)]], [("seat", (LOOP,), EAR)], [("leave", [0])], [("leave", (0,))]]
    return [thing for thing in junk() if thing != []] + wrong


class Wrong(unittest.TestCase):
    def check(self, error, value, function, *arguments):
        before = frozen(value)
        with self.assertRaises(error) as caught:
            function(*arguments)
        self.assertIs(caught.exception.value, value)
        self.assertIs(type(caught.exception), error)
        self.assertEqual(frozen(value), before)

    def test_scripts(self):
        hall = Hall()
        hall.seat(LOOP, EAR)
        before = moment(hall)
        for value in not_scripts():
            self.check(InvalidScript, value, play, hall, value)
            for function in (script_text, end_of, shortened):
                self.check(InvalidScript, value, function, value)
        self.assertEqual(moment(hall), before)

    def test_halls(self):
        for value in junk() + [LOOP, [Hall()], "hall"]:
            for script in ([], None, [("never",)]):
                self.check(InvalidHall, value, play, value, script)

    def test_no_command_of_a_wrong_script_is_made(self):
        hall = Hall()
        with self.assertRaises(InvalidScript):
            play(hall, [("seat", LOOP, EAR), ("never",)])
        self.assertEqual([hall.places(), hall.log()], [[], []])


class Texts(unittest.TestCase):
    def test_written_and_read_back(self):
        for rng in rngs(250):
            script = random_script(rng)
            if rng.random() < 0.3:
                script.append(("seat", random_desk(rng), random_desk(rng)))
            text = script_text(script)
            self.assertEqual(text, "\n".join(written_plainly(script)))
            self.assertEqual(frozen(read_script(text)), frozen(script))

    def test_by_hand(self):
        told = [([], ""), ([("undo",)], "undo"), ([("try", [])], "try\nend"), ([("swap", 10, 0)], "swap 10 0"),
                ([("try", [("try", [("leave", 3)]), ("redo",)])], "try\n  try\n    leave 3\n  end\n  redo\nend"),
                ([("risk", 0, FIRST, "z")], "risk 0 z\n  start start\n  start says hi z\n  z done\nend"),
                ([("try", [("renew", 1, FIRST)])],
                 "try\n  renew 1\n    start start\n    start says hi z\n    z done\n  end\nend")]
        for script, text in told:
            self.assertEqual([script_text(script), read_script(text)], [text, script])

    def test_desks_and_words_that_are_called_like_commands(self):
        book = {"end": ("says", {"try": "start", "end": "end"}), "start": ("hears", {"start": "done"}), "done": DONE}
        desk = Desk(book, "end")
        script = [("seat", desk, turned(desk)), ("go_on", 0, "end"), ("risk", 0, desk, "end"), ("exchange", 0, desk,
                                                                                                "try")]
        self.assertEqual(read_script(script_text(script)), script)

    def test_bent_texts(self):
        told = [0, 0]
        for rng in rngs(120):
            for text in bent_texts(rng, script_text(random_script(rng, 6)), 20):
                self.judge(text, told)
        self.assertGreater(min(told), 200)

    def judge(self, text, told):
        try:
            script = read_script(text)
            told[0] += 1
            self.assertEqual("\n".join(written_plainly(script)), text)
        except InvalidText as error:
            told[1] += 1
            self.assertIs(error.value, text)

    def test_wrong_texts(self):
        desk = "  start s\n  s done\n"
        wrong = ["undo\n", "\nundo", " undo", "undo ", "undo 0", "never", "end", "try", "try\n", "try\nundo\nend",
                 "try\nend\nend",
                 "try\n undo\nend", "try\n   undo\nend", "try\n  undo", "try\n  undo\nEnd", "leave", "leave 01",
                 "leave -1",
                 "leave +1", "leave x", "leave 1 1", "leave  1", "leave 1_0", "go_on more 0", "go_on 0", "go_on 0 More",
                 "swap 0", "turn 0\n\nturn 0", "renew 0\n" + desk, "renew 0\n" + desk + "  end",
                 "seat\n" + desk + "end", "seat\n" + desk + "end\n" + desk + "end\n" + desk + "end",
                 "renew 0\nend", "renew 0\n  start s\nend", "renew 0\n  start t\n  s done\nend",
                 "renew 0\nstart s\ns done\nend", "renew 0\n  undo\nend", "undo\nend", "undo\n  undo\nend",
                 "exchange 0\n" + desk + "end", "exchange s 0\n" + desk + "end", "words", "states 0", "log",
                 "still_ends 0",
                 "try 0\nend", "try\nend\n  undo\nend", "try\n  undo\nend\n  undo\nend", "leave " + "9" * 5000 + " ",
                 "  undo", "renew 0\n  start s\n  s done\n\nend", "undo\r\nundo", "leave\t0",
                 "renew 0\n" + desk + "end "]
        others = [thing for thing in junk() if thing != ""] + [LOOP, ["undo"], ("undo",), [("undo",)], b"undo"]
        for text in wrong + others:
            with self.assertRaises(InvalidText) as caught:
                read_script(text)
            self.assertIs(caught.exception.value, text)
        right = "renew 0\n" + desk + "end"
        self.assertEqual(read_script(right), [("renew", 0, Desk({"s": DONE}, "s"))])


class Ends(unittest.TestCase):
    def test_end_of(self):
        for rng in rngs(150):
            script, hall = random_script(rng), Hall()
            played_plainly(hall, script)
            given = end_of(script)
            self.assertEqual(list(given.items()), list(told_by(hall).items()))
            for _, _, _, talk in given.values():
                talk.append("spoilt")
            self.assertEqual(end_of(script), told_by(hall))
        self.assertEqual(end_of([]), {})

    def test_shortened(self):
        shorter = 0
        for rng in rngs(200):
            script = random_script(rng)
            before = frozen(script)
            left, at = list(script), len(script)
            while at:
                at -= 1
                fewer = left[:at] + left[at + 1:]
                if end_of(fewer) == end_of(script):
                    left = fewer
            given = shortened(script)
            shorter += 0 < len(given) < len(script)
            self.assertEqual(given, left)
            self.assertEqual(frozen(script), before)
            self.assertEqual(end_of(given), end_of(script))
            given.clear()
            self.assertEqual(frozen(script), before)
            self.assertEqual(shortened(script), left)
        self.assertGreater(shorter, 80)

    def test_by_hand(self):
        script = [("seat", LOOP, EAR), ("go_on", 0, "more"), ("exchange", 0, QUICK, "s"), ("exchange", 0, QUICK, "s"),
                  ("try", [("go_on", 0, "stop")]), ("states", 0, LOOP), ("go_on", 0, "never")]
        self.assertEqual(shortened(script), script[:3])
        self.assertEqual(shortened(script[:2] + [("turn", 0), ("turn", 0)]), script[:2] + [("turn", 0), ("turn", 0)])
        self.assertEqual(shortened([("undo",), ("redo",), ("words", 0)]), [])
