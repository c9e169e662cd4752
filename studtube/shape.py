"""A part: its name, its measures and its cells."""

# The signs of a place, as bytes: . # s t b
NO_CELL = 46
PLAIN = 35
STUD = 115
TUBE = 116
BOTH = 98


# Each stands where the document numbers what a place has, from 0 on.
def signs_in_order():
    return [NO_CELL, PLAIN, STUD, TUBE, BOTH]


def is_sign(byte):
    return byte in signs_in_order()


def number_of_sign(sign):
    return signs_in_order().index(sign)


def has_stud(sign):
    return sign == STUD or sign == BOTH


def has_tube(sign):
    return sign == TUBE or sign == BOTH


class Part:
    # cells: from each place (x, y, z) that has a cell to the cell's sign. Places without one are left out,
    # so that a place outside the part needs no asking of its own.
    def __init__(self, name, width, depth, height, weight, cells):
        self.name = name
        self.width = width
        self.depth = depth
        self.height = height
        self.weight = weight
        self.cells = cells

    def places_with_stud(self):
        return [place for place in self.cells if has_stud(self.cells[place])]

    def places_with_tube(self):
        return [place for place in self.cells if has_tube(self.cells[place])]

    def has_place(self, x, y, z):
        return x < self.width and y < self.depth and z < self.height

    def sign_at(self, x, y, z):
        return self.cells.get((x, y, z), NO_CELL)
