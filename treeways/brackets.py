"""Trees told by brackets, the way that all others are led to."""

from treeways.errors import NoTree


def is_brackets(text):
    depth = 0
    for place, sign in enumerate(text):
        # Back at nought the tree has ended: whatever still comes belongs to no tree or to another one.
        if place > 0 and depth < 1:
            return False
        if sign == "(":
            depth += 1
        elif sign == ")":
            depth -= 1
        else:
            return False
    return len(text) > 0 and depth == 0


def check_brackets(text):
    if not is_brackets(text):
        raise NoTree("the text is no tree's brackets")


def mirrored(text):
    check_brackets(text)
    # Read from its end, a tree closes where it opened, so each sign turns into the other.
    return "".join([")" if sign == "(" else "(" for sign in reversed(text)])
