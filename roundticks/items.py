"""The items of modules, and what may be wrong with them."""

from roundticks.networks import is_name_of, wrong_in_point, wrong_in_rule
from roundticks.numbers import are_alike_clocks
from roundticks.words import is_integer

MOST_COPIES = 10 ** 18
MEMBERS = {"door": 4, "point": 4, "rule": 4, "use": 3, "chain": 7}


def is_item(value):
    """Whether a value is a tuple that begins with the word of an item and has as many members as such."""
    if not isinstance(value, tuple) or len(value) == 0 or not isinstance(value[0], str):
        return False
    return value[0] in MEMBERS and len(value) == MEMBERS[value[0]]


def tells_point(item):
    """Whether an item is a door item or a point item."""
    return item[0] == "door" or item[0] == "point"


def points_of(items):
    """The list of the points of a module, as triples."""
    return [item[1:] for item in items if tells_point(item)]


def doors_of(items):
    """The list of the points of a module that are doors, as triples."""
    return [item[1:] for item in items if item[0] == "door"]


def used_by_item(item):
    """The name of the module that an item uses, or None."""
    if item[0] == "use":
        return item[1]
    return item[2] if item[0] == "chain" else None


def clocks_of(points):
    """The dict of the clocks of points, by their names."""
    return {name: (first, step) for name, first, step in points}


def behind_word(wrong):
    """The place within an item of what is wrong in the triple behind its word, or None."""
    return None if wrong is None else (wrong[0] + 1,)


def is_alike_point(value, clocks, clock):
    """Whether a value is a name of one of some points, whose clock is alike to this one."""
    return is_name_of(value, clocks) and are_alike_clocks(clocks[value], clock)


def wrong_in_join(join, doors, joined, points):
    """The place of the first wrong part within a join, as the end of its path, or None."""
    if not isinstance(join, tuple) or len(join) != 2:
        return ()
    door, point = join
    if not is_name_of(door, doors) or door in joined:
        return (0,)
    if not is_alike_point(point, points, doors[door]):
        return (1,)
    return None


def wrong_in_use(item, points, modules):
    """The place of the first wrong part within a use item, or None; modules has the doors of the earlier ones."""
    _, module, joins = item
    if not is_name_of(module, modules):
        return (1,)
    if not isinstance(joins, tuple):
        return (2,)
    doors = modules[module]
    joined = {}
    for j, join in enumerate(joins):
        wrong = wrong_in_join(join, doors, joined, points)
        if wrong is not None:
            return (2, j) + wrong
        joined[join[0]] = True
    return None if len(joined) == len(doors) else (2,)


def wrong_in_chain(item, points, modules):
    """The place of the first wrong part within a chain item, or None; modules has the doors of the earlier ones."""
    many, module, into, out, first, last = item[1:]
    if not is_integer(many) or not 1 <= many <= MOST_COPIES:
        return (1,)
    if not is_name_of(module, modules):
        return (2,)
    doors = modules[module]
    if not is_name_of(into, doors):
        return (3,)
    if out == into or not is_alike_point(out, doors, doors[into]):
        return (4,)
    if not is_alike_point(first, points, doors[into]):
        return (5,)
    if not is_alike_point(last, points, doors[out]):
        return (6,)
    return None


def wrong_in_other(item, points, modules):
    """The place of the first wrong part within an item that tells no point, or None."""
    if item[0] == "rule":
        return behind_word(wrong_in_rule(item[1:], points))
    if item[0] == "use":
        return wrong_in_use(item, points, modules)
    return wrong_in_chain(item, points, modules)


def wrong_in_items(items, modules):
    """The path of the first wrong part within a tuple of items, or None; modules has the doors of the earlier ones."""
    for i, item in enumerate(items):
        if not is_item(item):
            return (i,)
    earlier = {}
    for i, item in enumerate(items):
        if tells_point(item):
            wrong = behind_word(wrong_in_point(item[1:], earlier))
            if wrong is not None:
                return (i,) + wrong
            earlier[item[1]] = True
    points = clocks_of(points_of(items))
    for i, item in enumerate(items):
        if not tells_point(item):
            wrong = wrong_in_other(item, points, modules)
            if wrong is not None:
                return (i,) + wrong
    return None
