"""The refusals: each bears the number that answers it."""


class Refused(Exception):
    def __init__(self, number):
        self.number = number


class NoName(Refused):
    def __init__(self):
        Refused.__init__(self, -1)


class NoSuchTurn(Refused):
    def __init__(self):
        Refused.__init__(self, -1)


class NoRows(Refused):
    def __init__(self):
        Refused.__init__(self, -1)


class TooLong(Refused):
    def __init__(self):
        Refused.__init__(self, -2)


class NotFound(Refused):
    def __init__(self):
        Refused.__init__(self, -3)


class NotAlike(Refused):
    def __init__(self):
        Refused.__init__(self, -3)


class NoSuchPart(Refused):
    def __init__(self):
        Refused.__init__(self, -4)


class NoSuchPlace(Refused):
    def __init__(self):
        Refused.__init__(self, -4)


class NoCatalogue(Refused):
    def __init__(self, fault):
        Refused.__init__(self, -6)
        self.fault = fault


class NotRight(Refused):
    def __init__(self, point, where):
        Refused.__init__(self, -8)
        self.point = point
        self.where = where
