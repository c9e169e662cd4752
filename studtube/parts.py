"""The calls: each answers a list, which begins with a number below 0 when the call is refused."""

from studtube.names import is_name
from studtube.reader import read_catalogue
from studtube.refusals import NoCatalogue, NoName, NoSuchPart, NoSuchPlace, NoSuchTurn, NotFound, NotRight, Refused
from studtube.right import right_catalogue
from studtube.rows import fitting_places, rows_turned, sixteen_rows
from studtube.shape import number_of_sign
from studtube.turning import MOST_TURNS, count_of_turns, least_turn, turned_by
from studtube.writer import text_of_part


def judge(t):
    try:
        return [len(read_catalogue(t))]
    except NoCatalogue as e:
        return [e.number, e.fault]
    except Refused as e:
        return [e.number]


def check(t):
    try:
        right_catalogue(t)
        return [0]
    except NotRight as e:
        return [e.number, e.point, e.where]
    except Refused as e:
        return [e.number]


def number_of_part(t, s):
    if not is_name(s):
        raise NoName()
    for number, part in enumerate(right_catalogue(t)):
        if part.name == s:
            return number
    raise NotFound()


def find(t, s):
    try:
        return [number_of_part(t, s)]
    except Refused as e:
        return [e.number]


def part_in(parts, k):
    if k >= len(parts):
        raise NoSuchPart()
    return parts[k]


def chosen_part(k, t):
    return part_in(right_catalogue(t), k)


def measures(part):
    counts = [len(part.cells), len(part.places_with_stud()), len(part.places_with_tube())]
    return [part.width, part.depth, part.height, part.weight] + counts


def size(k, t):
    try:
        return measures(chosen_part(k, t))
    except Refused as e:
        return [e.number]


def with_length(row):
    return [len(row)] + row


def name(k, t):
    try:
        return with_length(chosen_part(k, t).name)
    except Refused as e:
        return [e.number]


def part_turned(k, r, t):
    if r > MOST_TURNS:
        raise NoSuchTurn()
    return turned_by(r, chosen_part(k, t))


def number_at(part, x, y, z):
    if not part.has_place(x, y, z):
        raise NoSuchPlace()
    return number_of_sign(part.sign_at(x, y, z))


def place(k, r, x, y, z, t):
    try:
        return [number_at(part_turned(k, r, t), x, y, z)]
    except Refused as e:
        return [e.number]


def turned(k, r, t):
    try:
        return with_length(text_of_part(part_turned(k, r, t)))
    except Refused as e:
        return [e.number]


def turn_between(i, j, t):
    parts = right_catalogue(t)
    return least_turn(part_in(parts, i), part_in(parts, j))


def alike(i, j, t):
    try:
        return [turn_between(i, j, t)]
    except Refused as e:
        return [e.number]


def turns(k, t):
    try:
        return [count_of_turns(chosen_part(k, t))]
    except Refused as e:
        return [e.number]


def turn16(l):
    try:
        return rows_turned(sixteen_rows(l))
    except Refused as e:
        return [e.number]


def fits16(dx, dy, s, t):
    try:
        return [fitting_places(dx, dy, s, t)]
    except Refused as e:
        return [e.number]
