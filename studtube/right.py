"""Whether a catalogue is right, and what's wrong with one that isn't."""

from studtube.reader import read_catalogue
from studtube.refusals import NotRight


def a_stud_is_covered(part):
    return any([(x, y, z + 1) in part.cells for x, y, z in part.places_with_stud()])


def a_tube_is_stopped(part):
    return any([(x, y, z - 1) in part.cells for x, y, z in part.places_with_tube()])


def spans(steps, length):
    return 0 in steps and length - 1 in steps


def reaches_all_sides(part):
    return (
        spans([place[0] for place in part.cells], part.width)
        and spans([place[1] for place in part.cells], part.depth)
        and spans([place[2] for place in part.cells], part.height)
    )


def beside(x, y, z):
    return [(x - 1, y, z), (x + 1, y, z), (x, y - 1, z), (x, y + 1, z), (x, y, z - 1), (x, y, z + 1)]


def reached_from(start, cells):
    reached = {start: True}
    waiting = [start]
    while len(waiting) > 0:
        place = waiting.pop()
        for near in beside(place[0], place[1], place[2]):
            if near in cells and near not in reached:
                reached[near] = True
                waiting.append(near)
    return reached


def hangs_together(part):
    if len(part.cells) == 0:
        return False
    start = list(part.cells)[0]
    return len(reached_from(start, part.cells)) == len(part.cells)


# The least of the document's points 1 to 4 that the part breaks; 0: none.
def broken_point(part):
    if a_stud_is_covered(part):
        return 1
    if a_tube_is_stopped(part):
        return 2
    if not reaches_all_sides(part):
        return 3
    if not hangs_together(part):
        return 4
    return 0


def stands_in_order(parts, number):
    return number == 0 or parts[number - 1].name < parts[number].name


def right_catalogue(t):
    parts = read_catalogue(t)
    for number, part in enumerate(parts):
        point = broken_point(part)
        if point > 0:
            raise NotRight(point, number)
        if not stands_in_order(parts, number):
            raise NotRight(5, number)
    return parts
