"""Trees told by rings split into triangles, led to brackets and back."""

from treeways.brackets import check_brackets
from treeways.errors import NoTriangles
from treeways.forms import text_of_depths


def triangles_of(text):
    check_brackets(text)
    triangles = []
    # By the lengths of the pieces, a corner is how many points have been closed so far: the triangle of a point has
    # the corner where the point opens, that where it has closed, and that where its parent has closed.
    corner = 0
    starts = []
    sides_below = [[]]
    for sign in text:
        if sign == "(":
            starts.append(corner)
            sides_below.append([])
        else:
            corner += 1
            sides = sides_below.pop()
            triangles.extend([side + (corner,) for side in sides])
            sides_below[-1].append((starts.pop(), corner))
    return sorted(triangles)


def middles_of(triangles):
    middles = {}
    for low, middle, high in triangles:
        if low >= middle or middle >= high:
            raise NoTriangles("the corners of a triangle rise")
        middles[(low, high)] = middle
    return middles


def text_of_triangles(triangles):
    middles = middles_of(triangles)
    depths = [0]
    # To split this ring takes as many triangles as were handed in, no two with the same least and greatest corner.
    # So a list with a triangle twice, over another one or outside the ring lacks one for some piece.
    pieces = [(0, len(triangles) + 1, 1)]
    while len(pieces) > 0:
        piece = pieces.pop()
        low = piece[0]
        high = piece[1]
        depth = piece[2]
        if high - low > 1:
            if (low, high) not in middles:
                raise NoTriangles("a piece of the ring has no triangle")
            middle = middles[(low, high)]
            depths.append(depth)
            pieces.append((middle, high, depth))
            pieces.append((low, middle, depth + 1))
    return text_of_depths(depths)
