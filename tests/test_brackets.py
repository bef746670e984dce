import itertools
import unittest

import trees
from treeways.brackets import is_brackets, mirrored
from treeways.counting import place_of
from treeways.errors import NoTree, WayError
from treeways.forms import counts_of, depths_of, parents_of, steps_of
from treeways.triangles import triangles_of

WRONG_TEXTS = [
    "", " ", "(", ")", ")(", "(()", "())", "()()", "(())()", "()(())", "())(", "(()))(", "((())", "((()))))",
    "[]", "{}", "(x)", "x", "()x", "x()", "( )", " ()", "() ", "()\n", "\n()", "(\t)", "(0)", "\uff08\uff09",
    "(" * 300, ")" * 300, "()" * 300, "(" * 300 + ")" * 299, "(" * 299 + ")" * 300, ")" * 300 + "(" * 300,
]


class IsBrackets(unittest.TestCase):
    def test_the_brackets_of_every_small_tree(self):
        for tree in trees.trees_up_to(8):
            self.assertIs(is_brackets(trees.brackets(tree)), True)

    def test_no_other_short_text(self):
        told = {trees.brackets(tree) for tree in trees.trees_up_to(6)}
        for length in range(13):
            for signs in itertools.product("()", repeat=length):
                text = "".join(signs)
                self.assertIs(is_brackets(text), text in told, text)

    def test_wrong_texts(self):
        for text in WRONG_TEXTS:
            self.assertIs(is_brackets(text), False, text)

    def test_one_point(self):
        self.assertIs(is_brackets("()"), True)

    def test_a_long_chain_and_many_children(self):
        for size in (300, 5000):
            self.assertIs(is_brackets("(" * size + ")" * size), True)
            self.assertIs(is_brackets("(" + "()" * (size - 1) + ")"), True)


class Mirrored(unittest.TestCase):
    def test_the_documents_tree(self):
        self.assertEqual(mirrored("((())())"), "(()(()))")

    def test_children_turn_at_every_depth(self):
        self.assertEqual(mirrored("((()(()))()())"), "(()()((())()))")

    def test_every_small_tree(self):
        for tree in trees.trees_up_to(8):
            text = trees.brackets(tree)
            self.assertEqual(mirrored(text), trees.brackets(trees.mirrored(tree)))
            self.assertEqual(mirrored(mirrored(text)), text)

    def test_trees_that_are_their_own_mirror(self):
        for text in ["()", "(" * 300 + ")" * 300, "(" + "()" * 299 + ")"]:
            self.assertEqual(mirrored(text), text)

    def test_a_long_tree_that_is_not(self):
        chain = "(" * 298 + ")" * 298
        self.assertEqual(mirrored("(()" + chain + ")"), "(" + chain + "())")


class RefusedTexts(unittest.TestCase):
    def test_whatever_takes_a_text_refuses_with_no_tree(self):
        for function in [mirrored, depths_of, parents_of, counts_of, steps_of, triangles_of, place_of]:
            for text in WRONG_TEXTS:
                with self.subTest(function=function.__name__, text=text):
                    with self.assertRaises(NoTree) as caught:
                        function(text)
                    self.assertIsInstance(caught.exception, WayError)
                    self.assertIsInstance(caught.exception, ValueError)


if __name__ == "__main__":
    unittest.main()
