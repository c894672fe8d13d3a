"""Texts of desks, changes, talks and levels, and what such texts tell."""

from endswell.changes import is_change
from endswell.desks import Desk, is_book, need_desk
from endswell.errors import InvalidChange, InvalidDesks, InvalidLevels, InvalidText
from endswell.forms import is_count, is_name, is_state_of
from endswell.talks import is_talk, need_talk


def lines_of_desk(desk):
    """Return the list of the lines of a desk."""
    book = desk.book()
    return ["start " + desk.start()] + [" ".join([state] + row_pieces(book[state])) for state in book]


def row_pieces(row):
    """Return the list of the kind of a row and its words, ascending, each with its goal."""
    kind, turns = row
    pieces = [kind]
    for word in sorted(turns):
        pieces = pieces + [word, turns[word]]
    return pieces


def row_of_pieces(pieces):
    """Return what has such pieces, if it is a row."""
    words = pieces[1:]
    return pieces[0], {words[at]: words[at + 1] for at in range(0, len(words) - 1, 2)}


def desk_of_lines(lines):
    """Return the desk that has such lines, None if there is none; lines of no desk may be taken for some desk's."""
    rows = [line.split(" ") for line in lines]
    if len(rows) == 0 or not all([len(pieces) > 1 for pieces in rows]):
        return None
    book = {pieces[0]: row_of_pieces(pieces[1:]) for pieces in rows[1:]}
    start = rows[0][1]
    return Desk(book, start) if is_book(book) and is_state_of(book, start) else None


def number_of(piece):
    """Return the number that a piece of a text tells, None if it tells none."""
    try:
        return int(piece)
    except ValueError:
        return None


def desk_text(desk):
    """Return the text of a desk."""
    need_desk(desk)
    return "\n".join(lines_of_desk(desk))


def read_desk(text):
    """Return the desk that has a text."""
    desk = desk_of_lines(text.split("\n")) if isinstance(text, str) else None
    # what is read is written again, so all that no writer makes is found out
    if desk is None or desk_text(desk) != text:
        raise InvalidText(text)
    return desk


def change_text(change):
    """Return the text of a change."""
    if not is_change(change):
        raise InvalidChange(change)
    if change[0] == "put":
        return " ".join(["put", change[1]] + row_pieces(change[2]))
    return " ".join(change)


def read_change(text):
    """Return the change that has a text."""
    pieces = text.split(" ") if isinstance(text, str) else []
    change = tuple(pieces)
    if len(pieces) > 2 and pieces[0] == "put":
        change = ("put", pieces[1], row_of_pieces(pieces[2:]))
    if not is_change(change) or change_text(change) != text:
        raise InvalidText(text)
    return change


def talk_text(talk):
    """Return the text of a talk."""
    need_talk(talk)
    return " ".join(talk)


def read_talk(text):
    """Return the talk that has a text."""
    talk = text.split(" ") if isinstance(text, str) and text != "" else []
    if not is_talk(talk) or text != talk_text(talk):
        raise InvalidText(text)
    return talk


def is_name_pair(value):
    """Return whether any object is a tuple of two words."""
    return isinstance(value, tuple) and len(value) == 2 and is_name(value[0]) and is_name(value[1])


def are_levels(value):
    """Return whether any object is a dictionary to counts, from words alone or from tuples of two words alone."""
    if not isinstance(value, dict) or not all([is_count(count) for count in value.values()]):
        return False
    return all([is_name(key) for key in value]) or all([is_name_pair(key) for key in value])


def level_line(key, count):
    """Return the line of a key and its count."""
    words = [key] if isinstance(key, str) else list(key)
    return " ".join(words + ["=", str(count)])


def levels_text(levels):
    """Return the text of levels."""
    if not are_levels(levels):
        raise InvalidLevels(levels)
    return "\n".join([level_line(key, levels[key]) for key in sorted(levels)])


def levels_of_lines(lines):
    """Return what has such lines, if it is levels."""
    levels = {}
    for line in lines:
        pieces = line.split(" ")
        key = pieces[0] if len(pieces) == 3 else tuple(pieces[:-2])
        levels[key] = number_of(pieces[-1])
    return levels


def read_levels(text):
    """Return the levels that have a text, keys ascending."""
    levels = levels_of_lines(text.split("\n")) if isinstance(text, str) and text != "" else {}
    if not are_levels(levels) or levels_text(levels) != text:
        raise InvalidText(text)
    return levels


def desks_text(desks):
    """Return the text of a list of desks."""
    if not isinstance(desks, list) or not all([isinstance(desk, Desk) for desk in desks]):
        raise InvalidDesks(desks)
    return "\n\n".join([desk_text(desk) for desk in desks])


def read_desks(text):
    """Return the list of desks that has a text."""
    parts = text.split("\n\n") if isinstance(text, str) and text != "" else []
    desks = [desk_of_lines(part.split("\n")) for part in parts]
    if any([desk is None for desk in desks]) or desks_text(desks) != text:
        raise InvalidText(text)
    return desks
