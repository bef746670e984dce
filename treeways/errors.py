"""What the program refuses with."""


class WayError(ValueError):
    pass


class NoTree(WayError):
    pass


class NoTriangles(WayError):
    pass


class NoTies(WayError):
    pass


class NoCode(WayError):
    pass


class NoPlace(WayError):
    pass
