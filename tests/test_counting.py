import math
import unittest

import trees
from treeways.counting import how_many, place_of, tree_at
from treeways.errors import NoPlace, WayError

LARGE = [10 ** 99, 10 ** 100 - 1, 10 ** 120]

# Written out by hand from point 13.
IN_ORDER = {
    1: ["()"],
    2: ["(())"],
    3: ["((()))", "(()())"],
    4: ["(((())))", "((()()))", "((())())", "(()(()))", "(()()())"],
}

MANY_OF_100 = 227508830794229349661819540395688853956041682601541047340


def following(text):
    """The next text in the order: the last `(` that can be turned is, and the least ending is put behind it."""
    for place in reversed(range(len(text))):
        ahead = text[:place]
        depth = ahead.count("(") - ahead.count(")")
        if text[place] == "(" and depth > 1:
            opening = len(text) // 2 - ahead.count("(")
            return ahead + ")" + "(" * opening + ")" * (opening + depth - 1)
    return None


class HowMany(unittest.TestCase):
    def test_small_sizes(self):
        self.assertEqual([how_many(size) for size in range(1, 11)], [1, 1, 2, 5, 14, 42, 132, 429, 1430, 4862])

    def test_as_many_as_there_are(self):
        for size in range(1, 10):
            self.assertEqual(how_many(size), len(trees.trees(size)))

    def test_none_with_fewer_than_one_point(self):
        for size in [0, -1, -2, -100, -101] + [-large for large in LARGE]:
            self.assertEqual(how_many(size), 0)

    def test_sizes_up_to_a_hundred_and_beyond(self):
        self.assertEqual(how_many(100), MANY_OF_100)
        for size in list(range(1, 121)) + [300, 1000]:
            self.assertEqual(how_many(size), math.comb(2 * size - 2, size - 1) // size)

    def test_a_whole_number(self):
        for size in [-1, 0, 1, 2, 100]:
            self.assertIs(type(how_many(size)), int)


class Places(unittest.TestCase):
    def test_written_out(self):
        for size, texts in IN_ORDER.items():
            self.assertEqual([tree_at(size, place) for place in range(len(texts))], texts)
            self.assertEqual([place_of(text) for text in texts], list(range(len(texts))))

    def test_every_small_tree_in_order(self):
        for size in range(1, 10):
            texts = sorted(trees.brackets(tree) for tree in trees.trees(size))
            for place, text in enumerate(texts):
                self.assertEqual(place_of(text), place)
                self.assertEqual(tree_at(size, place), text)

    def test_the_first_and_the_last(self):
        for size in [2, 3, 99, 100, 101, 300]:
            chain = "(" * size + ")" * size
            star = "(" + "()" * (size - 1) + ")"
            self.assertEqual(place_of(chain), 0)
            self.assertEqual(tree_at(size, 0), chain)
            self.assertEqual(place_of(star), how_many(size) - 1)
            self.assertEqual(tree_at(size, how_many(size) - 1), star)

    def test_places_of_many_figures(self):
        for size in [50, 99, 100, 101, 200, 300]:
            many = how_many(size)
            places = [many * part // 23 for part in range(23)] + [many // 3 ** power for power in range(1, 60)]
            for place in places:
                text = tree_at(size, place)
                self.assertEqual(len(text), 2 * size)
                self.assertEqual(place_of(text), place)

    def test_neighbours_of_a_large_size(self):
        for part in range(1, 23):
            place = MANY_OF_100 * part // 23
            text = tree_at(100, place)
            for further in range(1, 6):
                text = following(text)
                self.assertEqual(tree_at(100, place + further), text)
                self.assertEqual(place_of(text), place + further)


class Refused(unittest.TestCase):
    def assert_refused(self, size, place):
        with self.subTest(size=size, place=place):
            with self.assertRaises(NoPlace) as caught:
                tree_at(size, place)
            self.assertIsInstance(caught.exception, WayError)
            self.assertIsInstance(caught.exception, ValueError)

    def test_a_place_below_nought(self):
        for size in [1, 2, 3, 4, 50, 100]:
            for place in [-1, -2, -how_many(size)] + [-large for large in LARGE]:
                self.assert_refused(size, place)

    def test_as_many_as_there_are_and_beyond(self):
        for size in [1, 2, 3, 4, 50, 100]:
            for place in [how_many(size), how_many(size) + 1, 2 * how_many(size)] + LARGE:
                self.assert_refused(size, place)

    def test_a_size_without_trees(self):
        for size in [0, -1, -2, -100] + [-large for large in LARGE]:
            for place in [0, 1, -1, 5] + LARGE:
                self.assert_refused(size, place)


if __name__ == "__main__":
    unittest.main()
