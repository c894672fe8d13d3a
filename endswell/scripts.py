"""Scripts: lists of commands for a hall, which are played, written, read and shortened."""

from endswell.desks import Desk
from endswell.errors import InvalidScript, InvalidSpot, InvalidState, InvalidText, NothingToRedo, NothingToUndo, Refused
from endswell.forms import is_count, is_name
from endswell.hall import Hall, carried_out, need_hall
from endswell.papers import desk_of_lines, lines_of_desk, number_of

FORMS = {
    "seat": ("desk", "desk"),
    "go_on": ("count", "word"),
    "leave": ("count",),
    "exchange": ("count", "desk", "word"),
    "renew": ("count", "desk"),
    "risk": ("count", "desk", "word"),
    "swap": ("count", "count"),
    "turn": ("count",),
    "words": ("count",),
    "ends": ("count",),
    "states": ("count", "desk"),
    "undo": (),
    "redo": (),
}
MARGIN = "  "
END = "end"


def is_script(value):
    """Return whether any object is a script."""
    return isinstance(value, list) and all([is_command(command) for command in value])


def is_command(value):
    """Return whether any object is a command of a script."""
    if not isinstance(value, tuple) or len(value) == 0 or not isinstance(value[0], str):
        return False
    if value[0] == "try":
        return len(value) == 2 and is_script(value[1])
    if value[0] not in FORMS or len(value) != len(FORMS[value[0]]) + 1:
        return False
    return all([is_thing(kind, thing) for kind, thing in zip(FORMS[value[0]], value[1:])])


def is_thing(kind, value):
    """Return whether any object is a desk, a count or a word, whichever is wanted."""
    if kind == "desk":
        return isinstance(value, Desk)
    return is_count(value) if kind == "count" else is_name(value)


def need_script(script):
    """Raise InvalidScript unless any object is a script."""
    if not is_script(script):
        raise InvalidScript(script)


def play(hall, script):
    """Carry out a script on a hall, which is changed, and return the list of what is said."""
    need_hall(hall)
    need_script(script)
    return played(hall, script)


def played(hall, script):
    """Return what is said when a script is carried out on a hall."""
    return [answer(hall, command) for command in script]


def answer(hall, command):
    """Return what is said when a command is carried out on a hall, also if it raises an error."""
    try:
        return said(hall, command)
    except InvalidSpot:
        return ("refused", "InvalidSpot")
    except InvalidState:
        return ("refused", "InvalidState")
    except Refused:
        return ("refused", "Refused")
    except NothingToUndo:
        return ("refused", "NothingToUndo")
    except NothingToRedo:
        return ("refused", "NothingToRedo")


def said(hall, command):
    """Return what is said when a command is carried out on a hall."""
    word = command[0]
    if word == "seat":
        return ("seated", carried_out(hall, command))
    if word == "go_on":
        return ("pair", carried_out(hall, command))
    if word == "words":
        return ("words", hall.words(command[1]))
    if word == "ends":
        return ("ends", hall.still_ends(command[1]))
    if word == "states":
        return ("states", hall.states_for(command[1], command[2]))
    if word == "try":
        return ("tried", tried(hall, command[1]))
    if word == "undo":
        hall.undo()
    elif word == "redo":
        hall.redo()
    else:
        carried_out(hall, command)
    return ("done",)


def tried(hall, script):
    """Return what is said when a script is carried out on a hall in a block."""
    with hall.trial():
        return played(hall, script)


def script_text(script):
    """Return the text of a script."""
    need_script(script)
    return "\n".join(lines_of_script(script))


def lines_of_script(script):
    """Return the list of the lines of a script."""
    return [line for command in script for line in lines_of_command(command)]


def lines_of_command(command):
    """Return the list of the lines of a command."""
    if command[0] == "try":
        return ["try"] + block_of(lines_of_script(command[1]))
    things = [str(thing) for thing in command[1:] if not isinstance(thing, Desk)]
    lines = [" ".join([command[0]] + things)]
    for thing in command[1:]:
        if isinstance(thing, Desk):
            lines = lines + block_of(lines_of_desk(thing))
    return lines


def block_of(lines):
    """Return the lines farther in, with the line that ends them."""
    return [MARGIN + line for line in lines] + [END]


def read_script(text):
    """Return the script that has a text."""
    script = script_of(text.split("\n")) if isinstance(text, str) and text != "" else []
    # what is read is written again, so all that no writer makes is found out
    if not is_script(script) or script_text(script) != text:
        raise InvalidText(text)
    return script


def script_of(lines):
    """Return what has such lines, if it is a script."""
    heads = []
    block = []
    for line in lines:
        if line.startswith(MARGIN):
            block.append(line[len(MARGIN):])
        elif line == END and len(heads) > 0:
            heads[-1][1].append(block)
            block = []
        else:
            heads.append((line.split(" "), []))
    return [command_of(pieces, blocks) for pieces, blocks in heads]


def command_of(pieces, blocks):
    """Return what has such pieces in its first line and such blocks behind it, if it is a command."""
    if pieces[0] == "try":
        return tuple(["try"] + [script_of(block) for block in blocks])
    words = list(pieces[1:])
    desks = [desk_of_lines(block) for block in blocks]
    things = []
    for kind in FORMS.get(pieces[0], ()):
        left = desks if kind == "desk" else words
        thing = left.pop(0) if left else None
        things.append(number_of(thing) if kind == "count" and thing is not None else thing)
    return tuple([pieces[0]] + things)


def end_of(script):
    """Return the dictionary from the places at the end of a script, played on a new hall, to what is there."""
    hall = Hall()
    play(hall, script)
    return {place: (hall.own(place), hall.guest(place), hall.pair(place), hall.talk(place)) for place in hall.places()}


def shortened(script):
    """Return a script without the commands that do not matter for its end, looked at from the last one on."""
    end = end_of(script)
    left = list(script)
    for at in reversed(range(len(script))):
        fewer = left[:at] + left[at + 1:]
        if end_of(fewer) == end:
            left = fewer
    return left
