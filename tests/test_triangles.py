import itertools
import unittest

import trees
from treeways.errors import NoTriangles, WayError
from treeways.triangles import text_of_triangles, triangles_of

SIZE = 300

# Worked out by hand from point 11.
KNOWN = {
    "()": [],
    "(())": [(0, 1, 2)],
    "((()))": [(0, 1, 2), (0, 2, 3)],
    "(()())": [(0, 1, 3), (1, 2, 3)],
    "((())())": [(0, 1, 2), (0, 2, 4), (2, 3, 4)],
    "(()(()))": [(0, 1, 4), (1, 2, 3), (1, 3, 4)],
    "((()()))": [(0, 1, 3), (0, 3, 4), (1, 2, 3)],
    "((()(()))()(()))": [(0, 1, 4), (0, 4, 8), (1, 2, 3), (1, 3, 4), (4, 5, 8), (5, 6, 7), (5, 7, 8)],
    "(" * SIZE + ")" * SIZE: [(0, corner, corner + 1) for corner in range(1, SIZE)],
    "(" + "()" * (SIZE - 1) + ")": [(corner, corner + 1, SIZE) for corner in range(SIZE - 1)],
    "(" * 3000 + ")" * 3000: [(0, corner, corner + 1) for corner in range(1, 3000)],
    "(" + "()" * 2999 + ")": [(corner, corner + 1, 3000) for corner in range(2999)],
}

SPLIT = [(0, 1, 4), (0, 4, 8), (1, 2, 3), (1, 3, 4), (4, 5, 8), (5, 6, 7), (5, 7, 8)]

LARGE = [10 ** 99, 10 ** 120, -(10 ** 99), -(10 ** 120)]

WRONG = {
    "a ring of three corners in other numbers": [
        [(1, 2, 3)], [(0, 1, 3)], [(0, 2, 3)], [(-1, 0, 1)], [(-2, -1, 0)], [(0, 1, 10 ** 99)],
    ],
    "corners that don't rise": [
        [(0, 0, 0)], [(0, 0, 1)], [(0, 0, 2)], [(0, 2, 2)], [(0, 1, 1)], [(2, 1, 0)], [(0, 2, 1)], [(1, 0, 2)],
        [(2, 0, 1)], [(1, 2, 0)], [(0, 2, 1), (0, 2, 3)], [(0, 1, 2), (0, 3, 2)], [(0, 0, 3), (0, 2, 3)],
        [(0, 3, 3), (0, 1, 3)], [(0, 1, 2), (3, 0, 2)],
    ],
    "the same one twice": [[(0, 1, 2), (0, 1, 2)], [(0, 2, 3), (0, 2, 3)], [(0, 1, 3), (0, 1, 3)]],
    "one over the other": [
        [(0, 1, 3), (0, 2, 3)], [(0, 1, 2), (1, 2, 3)], [(0, 1, 2), (0, 1, 3)], [(0, 2, 3), (1, 2, 3)],
        [(0, 1, 4), (0, 2, 4), (0, 3, 4)], [(0, 2, 4), (0, 1, 3), (2, 3, 4)], [(0, 1, 2), (1, 2, 3), (2, 3, 4)],
    ],
    "a ring of another count of corners": [
        [(0, 1, 3)], [(0, 1, 2), (0, 2, 4)], [(0, 1, 2), (0, 2, 3), (3, 4, 5)], [(0, 1, 2), (3, 4, 5)],
        [(0, 1, 2), (0, 2, 3), (0, 3, 5)],
    ],
    "many": [
        [(0, 1, 2)] * SIZE,
        [(0, corner, corner + 1) for corner in range(2, SIZE)],
        [(0, corner, corner + 1) for corner in range(1, SIZE)] + [(0, 1, SIZE)],
        [(corner, corner + 1, corner + 2) for corner in range(SIZE)],
        [(corner, corner + 1, SIZE) for corner in range(1, SIZE - 1)],
    ],
}


def in_one_arc(one, other):
    """Whether all corners of the one lie between two corners of the other, with nothing of it between them."""
    low, middle, high = other
    return (all(low <= corner <= middle for corner in one)
            or all(middle <= corner <= high for corner in one)
            or all(corner <= low or corner >= high for corner in one))


def splits_a_ring(triangles):
    """By point 10: as many triangles in the ring as fill it, no two of them one over the other."""
    for low, middle, high in triangles:
        if not 0 <= low < middle < high <= len(triangles) + 1:
            return False
    return all(in_one_arc(one, other) for one, other in itertools.permutations(triangles, 2))


def orders(triangles):
    third = len(triangles) // 3
    return [triangles, triangles[::-1], triangles[third:] + triangles[:third], triangles[::2] + triangles[1::2]]


class LedThereAndBack(unittest.TestCase):
    def test_known_trees(self):
        for text, triangles in KNOWN.items():
            with self.subTest(text=text[:20]):
                self.assertEqual(triangles_of(text), triangles)
                for order in orders(triangles):
                    self.assertEqual(text_of_triangles(order), text)

    def test_one_point_has_none(self):
        self.assertEqual(triangles_of("()"), [])
        self.assertEqual(text_of_triangles([]), "()")

    def test_the_answer_is_a_list_of_tuples_of_whole_numbers(self):
        answer = triangles_of("((())())")
        self.assertIs(type(answer), list)
        for triangle in answer:
            self.assertIs(type(triangle), tuple)
            self.assertEqual([type(corner) for corner in triangle], [int] * 3)

    def test_every_small_tree(self):
        for tree in trees.trees_up_to(8):
            text = trees.brackets(tree)
            triangles = trees.triangles(tree)
            self.assertEqual(triangles_of(text), triangles)
            for order in orders(triangles):
                self.assertEqual(text_of_triangles(order), text)

    def test_every_order(self):
        for tree in trees.trees_up_to(6):
            for order in itertools.permutations(trees.triangles(tree)):
                self.assertEqual(text_of_triangles(list(order)), trees.brackets(tree))

    def test_a_large_tree_of_mixed_depths(self):
        branch = "(()((())()))"
        for text in ["(" + branch * 49 + ")", "(()" * 150 + ")" * 150, "(" * 150 + "()" * 150 + ")" * 150]:
            triangles = triangles_of(text)
            self.assertEqual(len(triangles), len(text) // 2 - 1)
            self.assertEqual(triangles, sorted(triangles))
            for order in orders(triangles):
                self.assertEqual(text_of_triangles(order), text)

    def test_every_small_ring_tells_just_one_tree(self):
        for count in range(5):
            told = [tuple(triangles_of(trees.brackets(tree))) for tree in trees.trees(count + 1)]
            rising = itertools.combinations(range(count + 2), 3)
            split = [some for some in itertools.combinations(rising, count) if splits_a_ring(some)]
            self.assertEqual(sorted(told), split)


class Refused(unittest.TestCase):
    def assert_refused(self, triangles):
        for order in orders(triangles):
            handed_in = list(order)
            with self.subTest(triangles=handed_in[:9]):
                with self.assertRaises(NoTriangles) as caught:
                    text_of_triangles(handed_in)
                self.assertIsInstance(caught.exception, WayError)
                self.assertIsInstance(caught.exception, ValueError)
                self.assertEqual(handed_in, order)

    def test_wrong_lists(self):
        for lists in WRONG.values():
            for triangles in lists:
                self.assert_refused(triangles)

    def test_one_gone(self):
        for triangles in [SPLIT, KNOWN["((())())"]]:
            for place in range(len(triangles)):
                self.assert_refused(triangles[:place] + triangles[place + 1:])

    def test_one_twice(self):
        for place in range(len(SPLIT)):
            self.assert_refused(SPLIT + [SPLIT[place]])
            for other in range(len(SPLIT)):
                if other != place:
                    self.assert_refused(SPLIT[:other] + [SPLIT[place]] + SPLIT[other + 1:])

    def test_a_corner_moved(self):
        for place, triangle in enumerate(SPLIT):
            for which in range(3):
                for corner in list(range(-2, 12)) + LARGE:
                    if corner != triangle[which]:
                        moved = triangle[:which] + (corner,) + triangle[which + 1:]
                        self.assert_refused(SPLIT[:place] + [moved] + SPLIT[place + 1:])

    def test_corners_in_another_order(self):
        for place, triangle in enumerate(SPLIT):
            for turned in itertools.permutations(triangle):
                if turned != triangle:
                    self.assert_refused(SPLIT[:place] + [turned] + SPLIT[place + 1:])

    def test_all_corners_moved_by_as_much(self):
        for by in [-9, -1, 1, 9] + LARGE:
            self.assert_refused([(low + by, middle + by, high + by) for low, middle, high in SPLIT])

    def test_each_short_list_that_splits_no_ring(self):
        corners = range(-1, 5)
        some = list(itertools.product(corners, repeat=3))
        rising = list(itertools.combinations(range(-1, 7), 3))
        lists = [[one] for one in some] + [list(two) for two in itertools.product(some, repeat=2)]
        lists += [list(three) for three in itertools.product(rising, repeat=3)]
        texts = {tuple(trees.triangles(tree)): trees.brackets(tree) for tree in trees.trees_up_to(4)}
        for triangles in lists:
            try:
                answer = text_of_triangles(triangles)
            except NoTriangles:
                answer = None
            wanted = texts[tuple(sorted(triangles))] if splits_a_ring(triangles) else None
            self.assertEqual(answer, wanted, triangles)


class NothingIsChanged(unittest.TestCase):
    def test_triangles_in_another_order_stay_in_it(self):
        handed_in = SPLIT[::-1]
        text_of_triangles(handed_in)
        self.assertEqual(handed_in, SPLIT[::-1])

    def test_an_answer_is_a_new_list_each_time(self):
        triangles_of("((())())").append((7, 8, 9))
        self.assertEqual(triangles_of("((())())"), KNOWN["((())())"])


if __name__ == "__main__":
    unittest.main()
