"""Turns parts clockwise, seen from above, and tells which are one another's turned."""

from studtube.refusals import NotAlike
from studtube.shape import Part

MOST_TURNS = 3


def turned_once(part):
    cells = {}
    for x, y, z in part.cells:
        cells[(y, part.width - 1 - x, z)] = part.cells[(x, y, z)]
    return Part(part.name, part.depth, part.width, part.height, part.weight, cells)


def turned_by(r, part):
    result = part
    for turn in range(r):
        result = turned_once(result)
    return result


def same_shape(one, other):
    return (
        one.width == other.width
        and one.depth == other.depth
        and one.height == other.height
        and one.cells == other.cells
    )


def least_turn(first, second):
    for r in range(MOST_TURNS + 1):
        if same_shape(turned_by(r, first), second):
            return r
    raise NotAlike()


def count_of_turns(part):
    different = []
    for r in range(MOST_TURNS + 1):
        then = turned_by(r, part)
        if not any([same_shape(then, other) for other in different]):
            different.append(then)
    return len(different)
