import itertools
import unittest

from treeways.codes import code_of, how_many_tied, number_of, tied_at, ties_of
from treeways.errors import NoCode, NoPlace, NoTies, WayError

LARGE = [10 ** 99, 10 ** 100 - 1, 10 ** 120]
NO_POINTS = [-1, -2, -100] + LARGE + [-large for large in LARGE]
TOO_FEW = [1, 0, -1, -2, -100] + [-large for large in LARGE]

# Worked out by hand from points 14 to 17: count, ties, code, number.
KNOWN = [
    (2, [(0, 1)], [], 0),
    (3, [(0, 1), (0, 2)], [0], 0),
    (3, [(0, 1), (1, 2)], [1], 1),
    (3, [(0, 2), (1, 2)], [2], 2),
    (4, [(0, 1), (1, 2), (2, 3)], [1, 2], 6),
    (4, [(0, 3), (1, 2), (1, 3)], [3, 1], 13),
    (4, [(0, 3), (1, 3), (2, 3)], [3, 3], 15),
    (5, [(0, 1), (0, 2), (0, 3), (0, 4)], [0, 0, 0], 0),
    (5, [(0, 4), (1, 2), (1, 4), (3, 4)], [4, 1, 4], 109),
    (6, [(0, 3), (1, 3), (2, 3), (3, 4), (4, 5)], [3, 3, 3, 4], 778),
    (10, [(0, 9), (1, 2), (1, 8), (2, 7), (3, 4), (3, 9), (4, 6), (5, 9), (6, 8)],
     [9, 9, 2, 1, 8, 6, 4, 3], 99218643),
]

CHAIN = [(0, 1), (1, 2), (2, 3), (3, 4), (4, 5)]

WRONG_TIES = {
    "too few": [(2, []), (3, []), (3, [(0, 1)]), (4, [(0, 1), (2, 3)]), (6, CHAIN[:4]), (6, CHAIN[1:]), (100, CHAIN)],
    "too many": [
        (2, [(0, 1), (0, 1)]), (2, [(0, 1), (1, 0)]), (3, [(0, 1), (0, 2), (1, 2)]), (6, CHAIN + [(0, 5)]),
        (6, CHAIN + [(0, 1)]), (6, CHAIN + [(1, 0)]), (6, CHAIN + [(3, 3)]), (5, CHAIN), (2, CHAIN * 120),
    ],
    "a ring of ties": [
        (4, [(0, 1), (1, 2), (0, 2)]), (4, [(1, 2), (2, 3), (3, 1)]), (5, [(0, 1), (1, 2), (2, 3), (3, 0)]),
        (6, [(0, 1), (2, 3), (3, 4), (4, 5), (5, 2)]),
    ],
    "a tie twice": [
        (3, [(0, 1), (0, 1)]), (3, [(0, 1), (1, 0)]), (4, [(0, 1), (1, 2), (2, 1)]), (6, CHAIN[:4] + [(1, 0)]),
    ],
    "a point with itself": [
        (2, [(0, 0)]), (2, [(1, 1)]), (3, [(0, 1), (2, 2)]), (3, [(0, 1), (0, 0)]), (6, CHAIN[:4] + [(5, 5)]),
        (6, CHAIN[1:] + [(0, 0)]),
    ],
    "a number that is no point's": [
        (2, [(1, 2)]), (2, [(0, 2)]), (2, [(-1, 0)]), (2, [(0, -1)]), (2, [(2, 3)]), (2, [(-2, -1)]),
        (3, [(0, 1), (1, 3)]), (3, [(1, 2), (2, 3)]), (3, [(0, 1), (1, -1)]), (3, [(0, 1), (-1, 1)]),
        (4, [(0, 1), (1, 2), (2, 4)]), (4, [(0, 1), (1, 2), (2, -1)]), (4, [(1, 2), (2, 3), (3, 4)]),
    ],
}

WRONG_CODES = [
    (2, [0]), (2, [1]), (2, [0, 1]), (2, [2]), (2, [-1]),
    (3, []), (3, [0, 1]), (3, [3]), (3, [-1]), (3, [0, 1, 2]),
    (4, []), (4, [0]), (4, [0, 1, 2]), (4, [4, 0]), (4, [0, 4]), (4, [-1, 0]), (4, [0, -1]), (4, [-4, -4]),
    (100, []), (100, [0] * 97), (100, [0] * 99), (100, [0] * 100), (100, [0] * 97 + [100]), (100, [-1] + [0] * 97),
    (3, [0] * 600),
]


def joined(count, ties):
    """By point 14, told by parts that grow together as the ties are laid."""
    parts = {point: {point} for point in range(count)}
    for one, other in ties:
        if one not in parts or other not in parts:
            return False
        part = parts[one] | parts[other]
        for point in part:
            parts[point] = part
    return count >= 2 and len(ties) == count - 1 and len(parts[0]) == count


def plain_code(count, ties):
    """By point 15, one end after the other."""
    left = [set(tie) for tie in ties]
    points = set(range(count))
    code = []
    while len(points) > 2:
        ends = [point for point in points if sum(point in tie for tie in left) == 1]
        end = min(ends)
        own = next(tie for tie in left if end in tie)
        left.remove(own)
        points.remove(end)
        code += own - {end}
    return code


def every_tree(count):
    pairs = itertools.combinations(range(count), 2)
    return [list(ties) for ties in itertools.combinations(pairs, count - 1) if joined(count, ties)]


def turned(ties):
    """The same ties in other orders, with either point first."""
    swapped = [tie[::-1] for tie in ties]
    third = len(ties) // 3
    mixed = [tie[::-1] if place % 2 else tie for place, tie in enumerate(ties)]
    return [ties, ties[::-1], swapped, swapped[::-1], mixed[third:] + mixed[:third]]


def some_codes(count):
    """Codes of a large count, of numbers that repeat and of numbers that don't."""
    length = count - 2
    return [
        [0] * length,
        [count - 1] * length,
        list(range(length)),
        list(range(2, count)),
        list(range(length))[::-1],
        [place * 37 % count for place in range(length)],
        [place * place % count for place in range(length)],
        [place * place * 7 % 11 for place in range(length)],
        [count - 1 - place % 5 for place in range(length)],
    ]


class Refusals(unittest.TestCase):
    def assert_refused(self, refusal, function, count, told):
        handed_in = list(told) if isinstance(told, list) else told
        with self.subTest(function=function.__name__, count=count, told=told):
            with self.assertRaises(refusal) as caught:
                function(count, handed_in)
            self.assertIsInstance(caught.exception, WayError)
            self.assertIsInstance(caught.exception, ValueError)
            self.assertEqual(handed_in, told)


class Known(unittest.TestCase):
    def test_ties_to_codes_and_numbers(self):
        for count, ties, code, number in KNOWN:
            for order in turned(ties):
                self.assertEqual(code_of(count, order), code)
                self.assertEqual(number_of(count, order), number)

    def test_codes_and_numbers_to_ties(self):
        for count, ties, code, number in KNOWN:
            self.assertEqual(ties_of(count, code), ties)
            self.assertEqual(tied_at(count, number), ties)

    def test_two_points_and_the_empty_code(self):
        for ties in [[(0, 1)], [(1, 0)]]:
            self.assertEqual(code_of(2, ties), [])
            self.assertEqual(number_of(2, ties), 0)
        self.assertEqual(ties_of(2, []), [(0, 1)])
        self.assertEqual(tied_at(2, 0), [(0, 1)])
        self.assertEqual(how_many_tied(2), 1)

    def test_the_kinds_of_the_answers(self):
        self.assertIs(type(code_of(4, CHAIN[:3])), list)
        self.assertIs(type(number_of(4, CHAIN[:3])), int)
        for ties in [ties_of(4, [1, 2]), tied_at(4, 6), ties_of(2, []), tied_at(2, 0)]:
            self.assertIs(type(ties), list)
            for tie in ties:
                self.assertIs(type(tie), tuple)
                self.assertEqual([type(point) for point in tie], [int, int])


class EverySmallTree(unittest.TestCase):
    def test_led_to_its_code_and_back(self):
        for count in range(2, 7):
            for ties in every_tree(count):
                code = plain_code(count, ties)
                for order in turned(ties):
                    self.assertEqual(code_of(count, order), code)
                self.assertEqual(ties_of(count, code), ties)

    def test_every_order_and_either_point_first(self):
        for count in range(2, 5):
            for ties in every_tree(count):
                code = plain_code(count, ties)
                for order in itertools.permutations(ties):
                    for swaps in itertools.product([1, -1], repeat=count - 1):
                        self.assertEqual(code_of(count, [tie[::swap] for tie, swap in zip(order, swaps)]), code)

    def test_each_code_is_of_just_one_tree(self):
        for count in range(2, 7):
            told = {tuple(ties_of(count, list(code))) for code in itertools.product(range(count), repeat=count - 2)}
            self.assertEqual(told, {tuple(ties) for ties in every_tree(count)})

    def test_numbers_are_the_codes_in_their_order(self):
        for count in range(2, 7):
            codes = list(itertools.product(range(count), repeat=count - 2))
            self.assertEqual(how_many_tied(count), len(codes))
            for number, code in enumerate(codes):
                ties = tied_at(count, number)
                self.assertEqual(code_of(count, ties), list(code))
                self.assertEqual(number_of(count, ties), number)


class LargeTrees(unittest.TestCase):
    def test_codes_there_and_back(self):
        for count in [50, 99, 100, 101, 150, 602]:
            for code in some_codes(count):
                ties = ties_of(count, code)
                self.assertEqual(ties, sorted((min(tie), max(tie)) for tie in ties))
                for order in turned(ties):
                    self.assertEqual(code_of(count, order), code)

    def test_against_the_plain_way(self):
        for code in some_codes(60):
            self.assertEqual(plain_code(60, ties_of(60, code)), code)

    def test_numbers_of_many_figures(self):
        for count in [50, 99, 100, 101]:
            many = how_many_tied(count)
            for number in [0, 1, count, 10 ** 60, many // 3, many // 7 * 5, many - 2, many - 1]:
                ties = tied_at(count, number)
                self.assertEqual(number_of(count, ties), number)
                self.assertEqual(ties, sorted((min(tie), max(tie)) for tie in ties))

    def test_figures_of_a_count_of_a_hundred(self):
        number = int("".join("{:02d}".format(place * 37 % 100) for place in range(98)))
        self.assertEqual(code_of(100, tied_at(100, number)), [place * 37 % 100 for place in range(98)])

    def test_a_long_chain_and_one_point_tied_to_all(self):
        count = 601
        chain = [(point, point + 1) for point in range(count - 1)]
        star = [(0, point) for point in range(1, count)]
        self.assertEqual(code_of(count, chain), list(range(1, count - 1)))
        self.assertEqual(code_of(count, star), [0] * (count - 2))
        self.assertEqual(ties_of(count, list(range(1, count - 1))), chain)
        self.assertEqual(ties_of(count, [0] * (count - 2)), star)


class HowManyTied(unittest.TestCase):
    def test_small_counts(self):
        self.assertEqual([how_many_tied(count) for count in range(2, 9)], [1, 3, 16, 125, 1296, 16807, 262144])

    def test_as_many_as_there_are(self):
        for count in range(2, 7):
            self.assertEqual(how_many_tied(count), len(every_tree(count)))

    def test_none_for_fewer_than_two(self):
        for count in TOO_FEW:
            self.assertEqual(how_many_tied(count), 0)

    def test_up_to_a_hundred_and_beyond(self):
        self.assertEqual(how_many_tied(100), 10 ** 196)
        for count in range(2, 121):
            self.assertEqual(how_many_tied(count), count ** (count - 2))


class RefusedTies(Refusals):
    def assert_no_ties(self, count, ties):
        for order in turned(ties):
            self.assert_refused(NoTies, code_of, count, order)
            self.assert_refused(NoTies, number_of, count, order)

    def test_wrong_ties(self):
        for lists in WRONG_TIES.values():
            for count, ties in lists:
                self.assert_no_ties(count, ties)

    def test_fewer_than_two_points(self):
        for count in TOO_FEW:
            for ties in [[], [(0, 0)], [(0, 1)], [(-1, 0)], [(0, 1), (1, 2)]]:
                self.assert_no_ties(count, ties)

    def test_numbers_that_are_no_points(self):
        for number in NO_POINTS + [6, 7]:
            for place, tie in enumerate(CHAIN):
                for other in tie + (number,):
                    self.assert_no_ties(6, CHAIN[:place] + [(other, number)] + CHAIN[place + 1:])

    def test_each_short_list_that_makes_no_tree(self):
        for count in range(-1, 5):
            pairs = list(itertools.product(range(-1, max(count, 1) + 1), repeat=2))
            for length in range(4):
                for ties in itertools.product(pairs, repeat=length):
                    try:
                        answer = code_of(count, list(ties))
                    except NoTies:
                        answer = None
                    wanted = plain_code(count, ties) if joined(count, ties) else None
                    self.assertEqual(answer, wanted, (count, ties))


class RefusedCodes(Refusals):
    def test_wrong_codes(self):
        for count, code in WRONG_CODES:
            self.assert_refused(NoCode, ties_of, count, code)

    def test_fewer_than_two_points(self):
        for count in TOO_FEW:
            for code in [[], [0], [-1], [0, 0]]:
                self.assert_refused(NoCode, ties_of, count, code)

    def test_numbers_that_are_no_points(self):
        code = [3, 3, 3, 4]
        for number in NO_POINTS + [6, 7]:
            for place in range(4):
                self.assert_refused(NoCode, ties_of, 6, code[:place] + [number] + code[place + 1:])

    def test_each_short_list_that_is_no_code(self):
        for count in range(-1, 6):
            for length in range(5):
                for code in itertools.product(range(-1, max(count, 1) + 1), repeat=length):
                    if count < 2 or length != count - 2 or min(code, default=0) < 0 or max(code, default=0) >= count:
                        with self.assertRaises(NoCode):
                            ties_of(count, list(code))
                    else:
                        self.assertEqual(plain_code(count, ties_of(count, list(code))), list(code))


class RefusedNumbers(Refusals):
    def test_a_number_below_nought(self):
        for count in [2, 3, 4, 50, 100]:
            for number in [-1, -2, -how_many_tied(count)] + [-large for large in LARGE]:
                self.assert_refused(NoPlace, tied_at, count, number)

    def test_as_many_as_there_are_and_beyond(self):
        for count in [2, 3, 4, 30, 50, 100]:
            many = how_many_tied(count)
            for number in [many, many + 1, many * count, many * 10 ** 100]:
                self.assert_refused(NoPlace, tied_at, count, number)

    def test_fewer_than_two_points(self):
        for count in TOO_FEW:
            for number in [0, 1, -1, 5] + LARGE:
                self.assert_refused(NoPlace, tied_at, count, number)


class NothingIsChanged(unittest.TestCase):
    def test_what_is_handed_in(self):
        for count, ties, code, number in KNOWN:
            for order in turned(ties):
                handed_in = list(order)
                code_of(count, handed_in)
                number_of(count, handed_in)
                self.assertEqual(handed_in, order)
            handed_in = list(code)
            ties_of(count, handed_in)
            self.assertEqual(handed_in, code)

    def test_an_answer_is_a_new_list_each_time(self):
        for count, ties, code, number in KNOWN:
            code_of(count, ties).append(7)
            ties_of(count, code).append((7, 8))
            self.assertEqual(code_of(count, ties), code)
            self.assertEqual(ties_of(count, code), ties)


if __name__ == "__main__":
    unittest.main()
