"""Turns parts clockwise, seen from above."""

from studtube.shape import Part


def turned_once(part):
    cells = {}
    for x, y, z in part.cells:
        cells[(y, part.width - 1 - x, z)] = part.cells[(x, y, z)]
    return Part(part.name, part.depth, part.width, part.height, part.weight, cells)


def turned_by(r, part):
    result = part
    for turn in range(r):
        result = turned_once(result)
    return result
