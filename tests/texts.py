"""Texts that are bent in one place, and the plain ways to write."""


def plain_row(row):
    """The pieces of a row, as [105] tells them."""
    return [row[0]] + [piece for word in sorted(row[1]) for piece in (word, row[1][word])]


def plain_desk_lines(desk):
    book = desk.book()
    return [f"start {desk.start()}"] + [" ".join([state] + plain_row(book[state])) for state in sorted(book)]


def bent_texts(rng, text, many=25):
    """The same text with one sign or one line left out, put in or exchanged."""
    signs = ' \n\t=abcstxyz0129"-+_[('
    for _ in range(many):
        at = rng.randint(0, len(text))
        yield rng.choice([text[:at] + text[at + 1:], text[:at] + rng.choice(signs) + text[at:],
                          text[:at] + rng.choice(signs) + text[at + 1:]])
        lines = text.split("\n")
        at, other = rng.randint(0, len(lines) - 1), rng.choice(lines + ["end", "", "  end", "try", "start a", "a done"])
        lines = rng.choice([lines[:at] + lines[at + 1:], lines[:at] + [other] + lines[at:],
                            lines[:at] + [other] + lines[at + 1:]])
        yield "\n".join(lines)
    for more in (" ", "\n", "\t", "\r", "\n\n"):
        yield from (text + more, more + text, text.replace("\n", more + "\n", 1), text.replace("\n", "\n" + more, 1),
                    text.replace(" ", " " + more, 1))
    yield text.upper()
