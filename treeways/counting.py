"""How many trees of a size there are, and which has which place among them."""

from treeways.brackets import check_brackets
from treeways.errors import NoPlace


def how_many(size):
    if size < 1:
        return 0
    many = 1
    for points in range(1, size):
        many = many * (4 * points - 2) // (points + 1)
    return many


def how_many_open(ways, opening, closing):
    # Of all ways in which so many signs `(` and `)` can end a text, the share that goes on with `(`. It is told by
    # the ways themselves, as ways(o, c) = (o + c)! * (c - o + 1) // (o! * (c + 1)!), so no table is needed.
    return ways * opening * (closing - opening + 2) // ((opening + closing) * (closing - opening + 1))


def place_of(text):
    check_brackets(text)
    opening = len(text) // 2 - 1
    closing = opening
    ways = how_many(opening + 1)
    place = 0
    for sign in text[1:-1]:
        ways_open = how_many_open(ways, opening, closing)
        if sign == "(":
            ways = ways_open
            opening -= 1
        else:
            place += ways_open
            ways -= ways_open
            closing -= 1
    return place


def tree_at(size, place):
    ways = how_many(size)
    if place < 0 or place >= ways:
        raise NoPlace("no tree of this size has this place")
    opening = size - 1
    closing = opening
    ahead = place
    signs = []
    while closing > 0:
        ways_open = how_many_open(ways, opening, closing)
        if ahead < ways_open:
            signs.append("(")
            ways = ways_open
            opening -= 1
        else:
            signs.append(")")
            ahead -= ways_open
            ways -= ways_open
            closing -= 1
    return "(" + "".join(signs) + ")"
