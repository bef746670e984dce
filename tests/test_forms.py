import itertools
import unittest

import trees
from treeways.errors import NoTree, WayError
from treeways.forms import counts_of, depths_of, parents_of, steps_of
from treeways.forms import text_of_counts, text_of_depths, text_of_parents, text_of_steps

WAYS = {
    "depths": (depths_of, text_of_depths, trees.depths),
    "parents": (parents_of, text_of_parents, trees.parents),
    "counts": (counts_of, text_of_counts, trees.counts),
    "steps": (steps_of, text_of_steps, trees.steps),
}

LARGE = [10 ** 99, 10 ** 100 - 1, 10 ** 120, -(10 ** 99), -(10 ** 120)]

SIZE = 300

KNOWN = {
    "the document's": {
        "text": "((())())",
        "depths": [0, 1, 2, 1],
        "parents": [None, 0, 1, 0],
        "counts": [2, 1, 0, 0],
        "steps": [1, 1, -1, -1, 1, -1],
    },
    "one point": {"text": "()", "depths": [0], "parents": [None], "counts": [0], "steps": []},
    "two points": {"text": "(())", "depths": [0, 1], "parents": [None, 0], "counts": [1, 0], "steps": [1, -1]},
    "back by several depths": {
        "text": "((()(()))()(()))",
        "depths": [0, 1, 2, 2, 3, 1, 1, 2],
        "parents": [None, 0, 1, 1, 3, 0, 0, 6],
        "counts": [3, 2, 0, 1, 0, 0, 1, 0],
        "steps": [1, 1, -1, 1, 1, -1, -1, -1, 1, -1, 1, 1, -1, -1],
    },
    "a long chain": {
        "text": "(" * SIZE + ")" * SIZE,
        "depths": list(range(SIZE)),
        "parents": [None] + list(range(SIZE - 1)),
        "counts": [1] * (SIZE - 1) + [0],
        "steps": [1] * (SIZE - 1) + [-1] * (SIZE - 1),
    },
    "many children": {
        "text": "(" + "()" * (SIZE - 1) + ")",
        "depths": [0] + [1] * (SIZE - 1),
        "parents": [None] + [0] * (SIZE - 1),
        "counts": [SIZE - 1] + [0] * (SIZE - 1),
        "steps": [1, -1] * (SIZE - 1),
    },
    "a chain far beyond the bounds": {
        "text": "(" * 3000 + ")" * 3000,
        "depths": list(range(3000)),
        "parents": [None] + list(range(2999)),
        "counts": [1] * 2999 + [0],
        "steps": [1] * 2999 + [-1] * 2999,
    },
}

WRONG = {
    "depths": [
        [], [1], [-1], [2], [1, 2], [-1, 0], [1, 0],
        [0, 0], [0, 1, 0], [0, -1], [0, 1, -1], [0, 1, 2, 0, 1],
        [0, 2], [0, 1, 3], [0, 1, 2, 1, 3], [0, 1, 1, 3],
        list(range(1, SIZE)), list(range(SIZE)) + [SIZE + 1], [0] * SIZE,
    ],
    "parents": [
        [], [0], [1], [-1],
        [0, None], [0, 0], [1, None], [-1, 0], [1, 0],
        [None, None], [None, 0, None], [None, 0, 1, None, 0],
        [None, 1], [None, 2], [None, 0, 2], [None, 0, 3], [None, 0, 1, 4],
        [None, 2, 0], [None, 0, 3, 0],
        [None, -1], [None, 0, -1], [None, 0, -2], [None, 0, 1, -3],
        [None, 0, 0, 1], [None, 0, 1, 0, 1], [None, 0, 1, 0, 2], [None, 0, 1, 1, 2],
        [None] * SIZE, [0] * SIZE, [None] + list(range(SIZE - 1)) + [SIZE], [None] + list(range(SIZE)) + [-1],
    ],
    "counts": [
        [], [1], [2], [2, 0], [1, 1], [2, 1, 0], [3, 0, 0], [0, 0, 2],
        [0, 0], [0, 1], [1, 0, 0], [2, 0, 0, 0], [0, 1, 0], [2, 1, 0, 0, 0],
        [-1], [-1, 0], [-1, 2], [0, -1], [1, -1], [2, -1, 0], [2, 0, -1], [3, -1, 0, 0], [1, 1, -1, 1],
        [1] * SIZE, [0] * SIZE, [SIZE] + [0] * (SIZE - 1), [SIZE] + [0] * (SIZE + 1),
    ],
    "steps": [
        [0], [2], [-2], [2, -2], [1, 0, -1], [1, -1, 0], [0, 1, -1], [2, -1, -1], [1, 1, -2], [3, -1, -1, -1],
        [-1], [-1, 1], [1, -1, -1], [1, -1, -1, 1], [1, -1, -1, 1, 1, -1],
        [1], [1, 1], [1, 1, -1], [1, -1, 1],
        [1] * SIZE, [-1] * SIZE, [-1] * SIZE + [1] * SIZE, [1] * SIZE + [-1] * (SIZE - 1), [1, -1] * SIZE + [-1, 1],
    ],
}

# Entries and length of all the short lists that are tried, besides those that tell a tree.
SHORT = {
    "depths": ([-2, -1, 0, 1, 2, 3, 4, 5], 5),
    "parents": ([None, -2, -1, 0, 1, 2, 3, 4, 5], 5),
    "counts": ([-2, -1, 0, 1, 2, 3, 4, 5], 5),
    "steps": ([-2, -1, 0, 1, 2], 6),
}


def same_entries(one, other):
    return one == other and [type(entry) for entry in one] == [type(entry) for entry in other]


class LedThereAndBack(unittest.TestCase):
    def test_known_trees(self):
        for name, told in KNOWN.items():
            for way, (list_of, text_of, plain) in WAYS.items():
                with self.subTest(tree=name, way=way):
                    answer = list_of(told["text"])
                    self.assertIs(type(answer), list)
                    self.assertTrue(same_entries(answer, told[way]))
                    self.assertEqual(text_of(told[way]), told["text"])

    def test_every_small_tree(self):
        for tree in trees.trees_up_to(8):
            text = trees.brackets(tree)
            for way, (list_of, text_of, plain) in WAYS.items():
                self.assertEqual(list_of(text), plain(tree), way)
                self.assertEqual(text_of(plain(tree)), text, way)

    def test_each_way_led_to_each_other(self):
        for name, told in KNOWN.items():
            for one, other in itertools.permutations(WAYS, 2):
                with self.subTest(tree=name, one=one, other=other):
                    text = WAYS[one][1](told[one])
                    self.assertEqual(WAYS[other][0](text), told[other])

    def test_no_steps_are_a_tree_of_one_point(self):
        self.assertEqual(steps_of("()"), [])
        self.assertEqual(text_of_steps([]), "()")


class Refused(unittest.TestCase):
    def assert_refused(self, way, told):
        handed_in = list(told)
        with self.subTest(way=way, told=told):
            with self.assertRaises(NoTree) as caught:
                WAYS[way][1](handed_in)
            self.assertIsInstance(caught.exception, WayError)
            self.assertIsInstance(caught.exception, ValueError)
            self.assertTrue(same_entries(handed_in, told))

    def test_wrong_lists(self):
        for way, lists in WRONG.items():
            for told in lists:
                self.assert_refused(way, told)

    def test_the_empty_list(self):
        for way in ["depths", "parents", "counts"]:
            self.assert_refused(way, [])

    def test_very_large_numbers_at_each_place(self):
        for way in WAYS:
            told = KNOWN["back by several depths"][way]
            for large in LARGE:
                self.assert_refused(way, [large])
                for place in range(len(told)):
                    self.assert_refused(way, told[:place] + [large] + told[place + 1:])
                self.assert_refused(way, told + [large])

    def test_each_short_list_that_tells_no_tree(self):
        for way, (entries, longest) in SHORT.items():
            text_of, plain = WAYS[way][1:]
            texts = {tuple(plain(tree)): trees.brackets(tree) for tree in trees.trees_up_to(6)}
            for length in range(longest + 1):
                for told in itertools.product(entries, repeat=length):
                    try:
                        answer = text_of(list(told))
                    except NoTree:
                        answer = None
                    self.assertEqual(answer, texts.get(told), (way, told))


class NothingIsChanged(unittest.TestCase):
    def test_lists_that_tell_a_tree(self):
        for name, told in KNOWN.items():
            for way, (list_of, text_of, plain) in WAYS.items():
                handed_in = list(told[way])
                text_of(handed_in)
                self.assertTrue(same_entries(handed_in, told[way]), (name, way))

    def test_an_answer_is_a_new_list_each_time(self):
        for list_of, text_of, plain in WAYS.values():
            first = list_of("((())())")
            kept = list(first)
            first.append(7)
            self.assertEqual(list_of("((())())"), kept)


if __name__ == "__main__":
    unittest.main()
