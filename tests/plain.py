"""Plain words of sections 6 to 9, and plenty of small desks, which the tests hold the answers against."""

import itertools

from endswell.desks import Desk
from tests.helpers import Plain

DONE = ("done", {})
ABOUT = {"says": "hears", "hears": "says", "done": "done"}


def rows_over(states, words):
    """All rows over some states and words."""
    rows = [DONE]
    for many in range(1, len(words) + 1):
        for some in itertools.combinations(words, many):
            for goals in itertools.product(states, repeat=many):
                rows += [(kind, dict(zip(some, goals))) for kind in ("says", "hears")]
    return rows


def closed(book, start):
    """All states to which rows of words lead from a start."""
    found = {start}
    for _ in book:
        found |= {goal for state in found for goal in book[state][1].values()}
    return found


def desks_over(states, words):
    """All desks of just these states, each of them come to from the first one."""
    for rows in itertools.product(rows_over(states, words), repeat=len(states)):
        book = dict(zip(states, rows))
        if len(closed(book, states[0])) == len(states):
            yield Desk(book, states[0])


SMALL = list(desks_over("p", "xy")) + list(desks_over("pq", "xy"))


def lively(rng, names="abc", words="xy", most=2, kinds=("says", "hears")):
    """A desk that often has partners: one state is done, the others say or hear."""
    some = names[:max(rng.randint(1, len(names)), rng.randint(1, len(names)))]
    book = {"t": DONE}
    for state in some:
        chosen = rng.sample(words, rng.choice([1] + [many for many in range(1, most + 1)] * 2))
        book[state] = (rng.choice(kinds), {word: rng.choice(some + "tt") for word in chosen})
    return Desk(book, some[0])


def near(rng, desk):
    """A desk that is bent in one place or two."""
    book = desk.book()
    for _ in range(rng.randint(1, 2)):
        state = rng.choice(list(book))
        kind, turns = book[state]
        if len(turns) > 1 and rng.random() < 0.6:
            del turns[rng.choice(sorted(turns))]
        elif turns:
            turns[rng.choice("xy")] = rng.choice(list(book))
    return Desk(book, desk.start())


def two_desks(rng):
    """An elder and a newer desk, often near to one another."""
    elder = lively(rng, kinds=rng.choice([("says",), ("says", "hears"), ("says", "hears")]))
    return elder, near(rng, elder) if rng.random() < 0.75 else lively(rng)


def without_heard(book, words):
    """The rows in which states hear none of some words."""
    return {s: (k, {w: g for w, g in t.items() if k != "hears" or w not in words}) for s, (k, t) in book.items()}


def positional(rows, start, most):
    """All desks that face rows state by state, saying at each hearing one up to so many of its words."""
    hearing = [state for state in rows if rows[state][0] == "hears"]
    choices = [[some for many in range(1, most + 1) for some in itertools.combinations(sorted(rows[state][1]), many)]
               for state in hearing]
    for chosen in itertools.product(*choices):
        said = dict(zip(hearing, chosen))
        yield Desk({state: (ABOUT[kind], {word: turns[word] for word in said.get(state, turns)})
                    for state, (kind, turns) in rows.items()}, start)


def whole_rows(rows, start):
    """Rows without the states that are not come to, and with a dead end for those that were left without words."""
    told = {state: rows[state] for state in closed(rows, start)}
    for state, (kind, turns) in told.items():
        if kind != "done" and not turns:
            told[state] = ("hears", {"dead": "dead"})
    return {**told, "dead": ("says", {"dead": "dead"})}


def positional_partners(desk, most=9):
    """All partners that say what they say by the desk's state alone, up to so many words."""
    rows = {state: desk.book()[state] for state in closed(desk.book(), desk.start())}
    return [partner for partner in positional(rows, desk.start(), most) if Plain(desk, partner).well]


def is_hopeful(rows, start):
    """Whether rows have a partner: one that says one word at each state will do, [31]."""
    rows = whole_rows(rows, start)
    return any(Plain(Desk(rows, start), partner).well for partner in positional(rows, start, 1))


FOUND = {}


def said_rows(rows):
    """Rows with said and sayable words alone; what was found for a book is kept, as finding it is slow."""
    if repr(rows) not in FOUND:
        viable = {state for state in rows if is_hopeful(rows, state)}
        FOUND[repr(rows)] = {state: (kind, {word: turns[word] for word in turns
                                            if kind == "says" or turns[word] in viable})
                             for state, (kind, turns) in rows.items()}
    return FOUND[repr(rows)]


def dicts_over(keys, most):
    """All dictionaries from some of the keys to counts up to a greatest one."""
    for counts in itertools.product([None] + list(range(most + 1)), repeat=len(keys)):
        yield {key: count for key, count in zip(keys, counts) if count is not None}


def bent(rng, counts, keys):
    """Dictionaries that are nearly some counts."""
    for key in keys:
        yield {other: counts[other] for other in counts if other != key}
        for count in range(4):
            yield {**counts, key: count}
    yield {key: 7 * count for key, count in counts.items()}
    yield {key: 7 * count + 3 for key, count in counts.items()}
    for _ in range(6):
        yield {key: rng.randint(0, 3) for key in rng.sample(list(keys), rng.randint(0, len(keys)))}


def is_rank_paper_plainly(book, state, paper):
    """What [31] says."""
    for each, rank in paper.items():
        kind, turns = book[each]
        goals = list(turns.values())
        lower = [goal for goal in goals if goal in paper and paper[goal] < rank]
        if kind == "says" and (not lower or not set(goals) <= set(paper)):
            return False
        if kind == "hears" and not lower:
            return False
    return state in paper


def is_level_paper_plainly(book, state, paper):
    """What [32] says."""
    for each, level in paper.items():
        kind, turns = book[each]
        goals = list(turns.values())
        lower = [goal for goal in goals if goal in paper and paper[goal] < level]
        rests = all(goal in paper and paper[goal] <= level for goal in goals)
        if kind == "done" or kind == "hears" and not rests or kind == "says" and not rests and not lower:
            return False
    return state in paper


class PlainHeld:
    """An elder and a newer desk, held against one another as plainly as can be."""

    def __init__(self, elder, newer, without=()):
        rows = without_heard(elder.book(), without)
        self.viable = is_hopeful(rows, elder.start())
        self.elder, self.newer = said_rows(rows), newer.book()
        self.first = (elder.start(), newer.start())
        self.all_pairs = sorted((a, b) for a in self.elder for b in self.newer)
        self.pairs = [self.first]
        for pair in self.pairs:
            self.pairs += sorted(set(self.steps(pair).values()) - set(self.pairs)) if self.matched(pair) else []

    def rows(self, pair):
        return self.elder[pair[0]], self.newer[pair[1]]

    def matched(self, pair):
        (kind, elder), (other, newer) = self.rows(pair)
        if kind != other:
            return False
        return set(newer) <= set(elder) if kind == "says" else set(elder) <= set(newer)

    def steps(self, pair):
        (kind, elder), (other, newer) = self.rows(pair)
        return {word: (elder[word], newer[word]) for word in elder if word in newer and kind == other}

    def behind(self, talk):
        pair = self.first
        for word in talk:
            if not self.matched(pair) or word not in self.steps(pair):
                return None
            pair = self.steps(pair)[word]
        return pair

    def level_stands(self, levels, pair):
        """What [45] says of one pair."""
        (kind, elder), (_, newer) = self.rows(pair)
        if not self.matched(pair):
            return False
        later = list(self.steps(pair).values())
        if not set(later) <= set(levels):
            return False
        rests = all(levels[each] <= levels[pair] for each in later)
        if kind == "says":
            return any(levels[each] < levels[pair] for each in later) or rests and set(elder) == set(newer)
        return rests

    def is_table(self, levels):
        if not self.viable:
            return levels == {}
        return self.first in levels and all(self.level_stands(levels, pair) for pair in levels)

    def raised(self):
        """The least table: levels are raised only where they have to be, from 0 on; None if there is none."""
        if not self.viable:
            return {}
        levels = {pair: 0 for pair in self.pairs}
        while not self.is_table(levels):
            for pair in levels:
                while not self.level_stands(levels, pair):
                    levels[pair] += 1
                    if levels[pair] > len(levels):
                        return None
        return levels

    def is_lost(self, ranks):
        """What [47] says."""
        if not self.viable or not set(ranks) & set(self.pairs):
            return False
        return all(self.rank_stands(ranks, pair) for pair in ranks)

    def rank_stands(self, ranks, pair):
        (kind, elder), (_, newer) = self.rows(pair)
        if not self.matched(pair):
            return True
        later = list(self.steps(pair).values())
        lower = any(each in ranks and ranks[each] < ranks[pair] for each in later)
        if kind == "says":
            return set(later) <= set(ranks) and (set(elder) > set(newer) or lower)
        return kind == "hears" and lower


def positions_over(books, first, shared):
    """The positions of several desks from the first one on, with kind and turns; None where the kinds are unlike.

    A position has a state for each desk, None for one that cannot have had the talk. Where the kind is the shared one,
    the words of all desks lead on, otherwise those of any one.
    """
    rows, layer = {}, [first]
    for position in layer:
        some = [book[state] for book, state in zip(books, position) if state is not None]
        kinds = {kind for kind, _ in some}
        if len(kinds) > 1:
            rows[position] = None
            continue
        words = [set(turns) for _, turns in some]
        chosen = set.intersection(*words) if kinds == {shared} else set.union(*words)
        turns = {word: tuple(state and book[state][1].get(word) for book, state in zip(books, position))
                 for word in sorted(chosen)}
        rows[position] = (kinds.pop(), turns)
        layer += [later for later in sorted(set(turns.values()), key=repr) if later not in layer]
    return rows


def choices_over(rows, first, shared):
    """All ways to choose words where the kind is the shared one, as rows in which all positions are of one kind."""
    choosing = [position for position in rows if rows[position] and rows[position][0] == shared]
    lists = [[some for many in range(1, len(rows[position][1]) + 1)
              for some in itertools.combinations(rows[position][1], many)] for position in choosing]
    for chosen in itertools.product(*lists):
        words = dict(zip(choosing, chosen))
        left = {position: row and (row[0], {word: row[1][word] for word in words.get(position, row[1])})
                for position, row in rows.items()}
        reached = [first]
        for position in reached:
            behind = left[position][1].values() if left[position] else []
            reached += [later for later in sorted(set(behind), key=repr) if later not in reached]
        if None not in [left[position] for position in reached]:
            yield {position: left[position] for position in reached}


def desk_over(rows, first, kinds):
    """The desk of some rows, with other kinds and names."""
    names = {position: "n" + "abcdefghijklmnopqrstuvwxyz"[at // 26] + "abcdefghijklmnopqrstuvwxyz"[at % 26]
             for at, position in enumerate(rows)}
    book = {names[position]: (kinds[kind], {word: names[later] for word, later in turns.items()})
            for position, (kind, turns) in rows.items()}
    return Desk(book, names[first])


def many_choices(rows, shared):
    """How many ways there are to choose words."""
    many = 1
    for row in rows.values():
        many *= 2 ** len(row[1]) - 1 if row and row[0] == shared and row[1] else 1
    return many


def positional_commons(desks, most=300):
    """All common partners that choose their words position by position, None if there are too many to look at."""
    first = tuple(desk.start() for desk in desks)
    rows = positions_over([desk.book() for desk in desks], first, "hears")
    if many_choices(rows, "hears") > most:
        return None
    found = [desk_over(left, first, ABOUT) for left in choices_over(rows, first, "hears")]
    return [one for one in found if all(Plain(desk, one).well for desk in desks)]


def positional_stand_ins(desks, most=300):
    """All desks that stand for each of viable ones, and choose their words position by position."""
    first = tuple(desk.start() for desk in desks)
    rows = positions_over([said_rows(desk.book()) for desk in desks], first, "says")
    if many_choices(rows, "says") > most:
        return None
    found = [desk_over(left, first, dict(zip(ABOUT, ABOUT))) for left in choices_over(rows, first, "says")]
    return [one for one in found if all(PlainHeld(desk, one).raised() is not None for desk in desks)]
