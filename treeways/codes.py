"""Trees of numbered points without a first one, told by ties, by codes and by numbers."""

from treeways.errors import NoCode, NoPlace, NoTies


def is_point(count, number):
    return number >= 0 and number < count


def neighbours_of(count, ties):
    neighbours = [[] for point in range(count)]
    for one, other in ties:
        neighbours[one].append(other)
        neighbours[other].append(one)
    return neighbours


def joins_all(neighbours):
    reached = {0: True}
    waiting = [0]
    while len(waiting) > 0:
        point = waiting.pop()
        for other in neighbours[point]:
            if other not in reached:
                reached[other] = True
                waiting.append(other)
    return len(reached) == len(neighbours)


def check_ties(count, ties):
    if count < 2:
        raise NoTies("there are fewer than two points")
    if len(ties) != count - 1:
        raise NoTies("ties are one fewer than the points")
    for one, other in ties:
        if not is_point(count, one) or not is_point(count, other):
            raise NoTies("a tie has a number that is no point's")
    # One fewer than the points can join all of them only where none is there twice, on one point or in a ring.
    if not joins_all(neighbours_of(count, ties)):
        raise NoTies("the ties don't join all points")


def code_of(count, ties):
    check_ties(count, ties)
    neighbours = neighbours_of(count, ties)
    tied = [len(others) for others in neighbours]
    code = []
    while len(code) < count - 2:
        end = tied.index(1)
        other = neighbours[end].pop()
        neighbours[other].remove(end)
        tied[end] -= 1
        tied[other] -= 1
        code.append(other)
    return code


def check_code(count, code):
    if count < 2:
        raise NoCode("there are fewer than two points")
    if len(code) != count - 2:
        raise NoCode("a code has two fewer numbers than there are points")
    for number in code:
        if not is_point(count, number):
            raise NoCode("a code has a number that is no point's")


def ties_of(count, code):
    check_code(count, code)
    # Each point is written down once for each of its ties but the last.
    tied = [code.count(point) + 1 for point in range(count)]
    ties = []
    for other in code:
        end = tied.index(1)
        ties.append((min(end, other), max(end, other)))
        tied[end] -= 1
        tied[other] -= 1
    ties.append(tuple([point for point in range(count) if tied[point] == 1]))
    return sorted(ties)


def number_of(count, ties):
    number = 0
    for figure in code_of(count, ties):
        number = number * count + figure
    return number


def how_many_tied(count):
    if count < 2:
        return 0
    many = 1
    for figure in range(count - 2):
        many *= count
    return many


def tied_at(count, number):
    if number < 0 or number >= how_many_tied(count):
        raise NoPlace("no tree of so many points has this number")
    figures = []
    rest = number
    for figure in range(count - 2):
        figures.append(rest % count)
        rest = rest // count
    return ties_of(count, list(reversed(figures)))
