"""Trees as the document defines them, made apart from the program.

A tree is the tuple of its children, each a tree itself.
"""


def rows_of_trees(size):
    """All rows of trees beside one another with so many points in all."""
    if size == 0:
        return [()]
    rows = []
    for first_size in range(1, size + 1):
        for first in trees(first_size):
            for others in rows_of_trees(size - first_size):
                rows.append((first,) + others)
    return rows


def trees(size):
    """All trees with so many points."""
    return rows_of_trees(size - 1)


def trees_up_to(size):
    return [tree for points in range(1, size + 1) for tree in trees(points)]


def brackets(tree):
    return "(" + "".join(brackets(child) for child in tree) + ")"


def depths(tree, depth=0):
    told = [depth]
    for child in tree:
        told += depths(child, depth + 1)
    return told


def parents(tree, parent=None, number=0):
    told = [parent]
    for child in tree:
        told += parents(child, number, number + len(told))
    return told


def counts(tree):
    told = [len(tree)]
    for child in tree:
        told += counts(child)
    return told


def steps(tree):
    told = []
    for child in tree:
        told += [1] + steps(child) + [-1]
    return told


def mirrored(tree):
    return tuple(mirrored(child) for child in reversed(tree))


def points(tree):
    return 1 + sum(points(child) for child in tree)


def triangles_of_row(row, corner):
    """The triangles of the piece that begins at this corner, from the outermost on."""
    if not row:
        return []
    own = points(row[0])
    last = corner + sum(points(tree) for tree in row) + 1
    below = triangles_of_row(row[0], corner)
    beside = triangles_of_row(row[1:], corner + own)
    return [(corner, corner + own, last)] + below + beside


def triangles(tree):
    return sorted(triangles_of_row(tree, 0))
