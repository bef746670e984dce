import unittest

from treeways import errors


class Errors(unittest.TestCase):
    def test_a_way_error_is_a_value_error(self):
        self.assertEqual(errors.WayError.__bases__, (ValueError,))

    def test_each_refusal_is_a_way_error_of_its_own(self):
        names = ["NoTree", "NoTriangles", "NoTies", "NoCode", "NoPlace"]
        refusals = [getattr(errors, name) for name in names]
        for refusal in refusals:
            self.assertEqual(refusal.__bases__, (errors.WayError,))
        self.assertEqual(len(set(refusals)), len(names))


if __name__ == "__main__":
    unittest.main()
