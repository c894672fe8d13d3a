"""Two desks that talk over lines, in which words wait until they are taken."""

from endswell.errors import InvalidCount, InvalidDeeds, InvalidScene
from endswell.facing import books_of, first_pair
from endswell.forms import is_count, is_name, is_state_of
from endswell.graphs import grown, node_behind, shortest_way, words_to
from endswell.pairs import next_of


def need_room(size):
    """Raise InvalidCount unless any object is a count from 1 on."""
    if not is_count(size) or size == 0:
        raise InvalidCount(size)


def is_line(value, size):
    """Return whether any object is a tuple of at most so many words."""
    return isinstance(value, tuple) and len(value) <= size and all([is_name(word) for word in value])


def is_scene(books, size, value):
    """Return whether any object is a scene by its form."""
    if not isinstance(value, tuple) or len(value) != 4:
        return False
    if not is_state_of(books[0], value[0]) or not is_state_of(books[1], value[1]):
        return False
    return is_line(value[2], size) and is_line(value[3], size)


def is_deed(value):
    """Return whether any object is a deed by its form."""
    if not isinstance(value, tuple) or len(value) != 3:
        return False
    return value[0] in ("one", "other") and value[1] in ("puts", "takes") and is_name(value[2])


def are_deeds(value):
    """Return whether any object is a list of deeds by their form."""
    return isinstance(value, list) and all([is_deed(deed) for deed in value])


def moves(row, size, own_line, line_to):
    """Return the list of what a state can do: tuples of "puts" or "takes", the word, the goal, and both lines then."""
    kind, turns = row
    if kind == "says" and len(own_line) < size:
        return [("puts", word, goal, own_line + (word,), line_to) for word, goal in turns.items()]
    if kind == "hears" and len(line_to) > 0 and line_to[0] in turns:
        return [("takes", line_to[0], turns[line_to[0]], own_line, line_to[1:])]
    return []


def scenes_next(told, scene):
    """Return the dictionary from the deeds that can be done in a scene, ascending, to the scenes behind them.

    told is a tuple of the books and the size of the lines.
    """
    books, size = told
    state, other, first, second = scene
    nexts = {}
    for does, word, goal, own_line, line_to in moves(books[0][state], size, first, second):
        nexts[("one", does, word)] = (goal, other, own_line, line_to)
    for does, word, goal, own_line, line_to in moves(books[1][other], size, second, first):
        nexts[("other", does, word)] = (state, goal, line_to, own_line)
    return nexts


def first_scene(one, other):
    """Return the first scene."""
    state, second_state = first_pair(one, other)
    return state, second_state, (), ()


def is_over(books, scene):
    """Return whether a scene is ended."""
    state, other, first, second = scene
    both_done = books[0][state][0] == "done" and books[1][other][0] == "done"
    return both_done and len(first) == 0 and len(second) == 0


def over_lines(one, other, size):
    """Return a tuple of the graph of the scenes that can come and the least numbers of deeds to an ended one.

    Errors are raised for the two desks and the size.
    """
    books = books_of(one, other)
    need_room(size)
    graph = grown(scenes_next, (books, size), [first_scene(one, other)])
    return graph, words_to(graph, [scene for scene in graph if is_over(books, scene)])


def books_and_scene(one, other, size, scene):
    """Return a tuple of the books of two desks; raise errors for these, the size and the scene."""
    books = books_of(one, other)
    need_room(size)
    if not is_scene(books, size, scene):
        raise InvalidScene(scene)
    return books


def deeds_at(one, other, size, scene):
    """Return the ascending list of the deeds that can be done in a scene."""
    return list(scenes_next((books_and_scene(one, other, size, scene), size), scene))


def scene_after(one, other, size, deeds):
    """Return the scene behind a list of deeds, None if one of them cannot be done."""
    books = books_of(one, other)
    need_room(size)
    if not are_deeds(deeds):
        raise InvalidDeeds(deeds)
    scene = first_scene(one, other)
    for deed in deeds:
        nexts = scenes_next((books, size), scene)
        if deed not in nexts:
            return None
        scene = nexts[deed]
    return scene


def end_well_over(one, other, size):
    """Return whether an ended scene can come from every scene that can come."""
    graph, least = over_lines(one, other, size)
    return len(least) == len(graph)


def lost_deeds(one, other, size):
    """Return a shortest list of deeds behind which no ended scene can come, None if there is none."""
    graph, least = over_lines(one, other, size)
    return shortest_way(graph, first_scene(one, other), [scene for scene in graph if scene not in least])


def are_lost_deeds(one, other, size, value):
    """Return whether any object is a list of deeds that can be done, behind which no ended scene can come."""
    graph, least = over_lines(one, other, size)
    if not are_deeds(value):
        return False
    behind = node_behind(graph, first_scene(one, other), value)
    return behind is not None and behind not in least


def graph_and_ends(one, other, size, scene):
    """Return a tuple of the graph of the scenes that can come from a scene and the list of the ended ones."""
    books = books_and_scene(one, other, size, scene)
    graph = grown(scenes_next, (books, size), [scene])
    return graph, [later for later in graph if is_over(books, later)]


def deeds_out(one, other, size, scene):
    """Return a shortest list of deeds from a scene to an ended one, None if there is none."""
    graph, ends = graph_and_ends(one, other, size, scene)
    return shortest_way(graph, scene, ends)


def are_deeds_out(one, other, size, scene, value):
    """Return whether any object is a shortest list of deeds from a scene to an ended one."""
    graph, ends = graph_and_ends(one, other, size, scene)
    shortest = shortest_way(graph, scene, ends)
    if shortest is None or not are_deeds(value) or len(value) != len(shortest):
        return False
    return node_behind(graph, scene, value) in ends


def farthest_over(one, other, size):
    """Return the greatest number of deeds of a shortest way out, None if the two do not end well over such lines."""
    graph, least = over_lines(one, other, size)
    return max(least.values()) if len(least) == len(graph) else None


def sizes_over(one, other, most):
    """Return the ascending list of the sizes from 1 to a greatest one over which two desks end well."""
    books_of(one, other)
    need_room(most)
    return [size for size in range(1, most + 1) if end_well_over(one, other, size)]


def most_waiting(one, other, size):
    """Return a tuple of the greatest numbers of words that wait in the first and in the second line."""
    graph, _ = over_lines(one, other, size)
    return max([len(scene[2]) for scene in graph]), max([len(scene[3]) for scene in graph])


def plain_talk(one, other, deeds):
    """Return the talk without lines in which each side says just what was taken of its line, None if there is none."""
    books = books_of(one, other)
    if not are_deeds(deeds) or scene_after(one, other, len(deeds) + 1, deeds) is None:
        raise InvalidDeeds(deeds)
    # what the other one took the one desk said, and the other way about
    left = {"one": taken_by(deeds, "other"), "other": taken_by(deeds, "one")}
    pair = first_pair(one, other)
    talk = []
    while left["one"] or left["other"]:
        says = "one" if books[0][pair[0]][0] == "says" else "other"
        nexts = next_of(books, pair)
        if not left[says] or left[says][0] not in nexts:
            return None
        talk.append(left[says][0])
        pair = nexts[left[says][0]]
        left[says] = left[says][1:]
    return talk


def taken_by(deeds, who):
    """Return the list of the words that one side takes, in their order."""
    return [word for own, does, word in deeds if own == who and does == "takes"]
