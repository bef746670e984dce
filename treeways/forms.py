"""Trees told by depths, parents, counts and steps, each led to brackets and back."""

from treeways.brackets import check_brackets
from treeways.errors import NoTree


def depths_of(text):
    check_brackets(text)
    depths = []
    depth = 0
    for sign in text:
        if sign == "(":
            depths.append(depth)
            depth += 1
        else:
            depth -= 1
    return depths


def parents_of(text):
    parents = []
    path = []
    for number, depth in enumerate(depths_of(text)):
        path = path[:depth]
        parents.append(path[-1] if depth > 0 else None)
        path.append(number)
    return parents


def counts_of(text):
    parents = parents_of(text)
    counts = [0 for parent in parents]
    for parent in parents[1:]:
        counts[parent] += 1
    return counts


def steps_of(text):
    check_brackets(text)
    return [1 if sign == "(" else -1 for sign in text[1:-1]]


def check_depths(depths):
    if len(depths) == 0 or depths[0] != 0:
        raise NoTree("depths begin with nought")
    for ahead, depth in zip(depths, depths[1:]):
        if depth < 1 or depth > ahead + 1:
            raise NoTree("a later depth is from one to one more than the depth ahead of it")


def text_of_depths(depths):
    check_depths(depths)
    signs = []
    still_open = 0
    for depth in depths:
        signs.append(")" * (still_open - depth))
        signs.append("(")
        still_open = depth + 1
    signs.append(")" * still_open)
    return "".join(signs)


def depths_of_parents(parents):
    if len(parents) == 0 or parents[0] is not None:
        raise NoTree("the first point has no parent")
    depths = [0]
    path = [0]
    for number, parent in enumerate(parents[1:], start=1):
        # A point that the path has left gets no more children, or the numbers would stand in another order.
        while len(path) > 0 and path[-1] != parent:
            path.pop()
        if len(path) == 0:
            raise NoTree("the parent of a later point is the point ahead of it or one above that")
        depths.append(len(path))
        path.append(number)
    return depths


def text_of_parents(parents):
    return text_of_depths(depths_of_parents(parents))


def depths_of_counts(counts):
    depths = []
    # How many points are still to come, for each depth from nought on.
    awaited = [1]
    for count in counts:
        while len(awaited) > 0 and awaited[-1] == 0:
            awaited.pop()
        if len(awaited) == 0:
            raise NoTree("the counts end too late")
        if count < 0:
            raise NoTree("a count is below nought")
        depths.append(len(awaited) - 1)
        awaited[-1] -= 1
        awaited.append(count)
    if sum(awaited) > 0:
        raise NoTree("the counts end too early")
    return depths


def text_of_counts(counts):
    return text_of_depths(depths_of_counts(counts))


def text_of_steps(steps):
    for step in steps:
        if step != 1 and step != -1:
            raise NoTree("a step is 1 or -1")
    inner = "".join(["(" if step == 1 else ")" for step in steps])
    text = "(" + inner + ")"
    # Steps that come below nought or don't end there are just those that make no tree's brackets here.
    check_brackets(text)
    return text
