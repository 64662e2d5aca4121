import copy
import unittest

from helper import is_count
from rowmend.blocks import size_of, tidied


class SizeTest(unittest.TestCase):
    def check(self, change, size):
        told = size_of(change)
        self.assertTrue(is_count(told))
        self.assertEqual(told, size)

    def test_the_empty_change(self):
        self.check([], 0)

    def test_keeps_alone(self):
        self.check([("keep", 1)], 0)
        self.check([("keep", 400)], 0)
        self.check([("keep", 10 ** 70 - 1)], 0)

    def test_a_swap_that_only_cuts(self):
        self.check([("swap", ["a"], [])], 1)
        self.check([("swap", ["a", "b", "a"], [])], 3)

    def test_a_swap_that_only_puts(self):
        self.check([("swap", [], ["a"])], 1)
        self.check([("swap", [], ["a", "a", "a", "b"])], 4)

    def test_a_swap_that_does_both(self):
        self.check([("swap", ["a"], ["b"])], 2)
        self.check([("swap", ["a", "b", "c"], ["d", "e"])], 5)

    def test_lines_cut_and_put_again_count_twice(self):
        self.check([("swap", ["a"], ["a"])], 2)

    def test_empty_lines_count(self):
        self.check([("swap", [""], ["", ""])], 3)

    def test_the_length_of_a_line_does_not_count(self):
        self.check([("swap", ["a long line"], ["another one"])], 2)

    def test_several_blocks(self):
        self.check([("keep", 3), ("swap", ["a"], [])], 1)
        self.check([("swap", [], ["a", "b"]), ("keep", 5)], 2)
        self.check([("swap", ["a"], []), ("keep", 2), ("swap", ["b", "c"], ["d"]), ("keep", 1),
                    ("swap", [], ["e", "f"])], 6)

    def test_many_lines(self):
        self.check([("swap", ["a"] * 400, ["b"] * 400)], 800)
        self.check([("keep", 1), ("swap", ["a"], ["b", ""])] * 400, 1200)

    def test_the_change_is_not_changed(self):
        change = [("swap", ["a"], []), ("keep", 2), ("swap", ["b", "c"], ["d"])]
        before = copy.deepcopy(change)
        size_of(change)
        self.assertEqual(change, before)

    def test_the_argument_has_its_name(self):
        self.assertEqual(size_of(change=[("swap", ["a"], ["b"])]), 2)


class TidiedTest(unittest.TestCase):
    def test_no_parts(self):
        self.assertEqual(tidied([]), [])

    def test_empty_parts_are_left_out(self):
        self.assertEqual(tidied([("keep", 0), ("swap", [], []), ("keep", 0)]), [])
        self.assertEqual(tidied([("swap", [], []), ("keep", 1), ("keep", 0)]), [("keep", 1)])

    def test_swaps_with_one_empty_list_stay(self):
        parts = [("swap", ["a"], []), ("keep", 1), ("swap", [], ["b"])]
        self.assertEqual(tidied(parts), parts)
        self.assertEqual(tidied([("swap", [""], [])]), [("swap", [""], [])])

    def test_neighbours_of_a_kind_are_united(self):
        self.assertEqual(tidied([("keep", 1), ("keep", 2), ("keep", 4)]), [("keep", 7)])
        parts = [("swap", ["a"], ["x"]), ("swap", [], ["y"]), ("swap", ["b"], [])]
        self.assertEqual(tidied(parts), [("swap", ["a", "b"], ["x", "y"])])

    def test_an_empty_part_does_not_stand_between_neighbours(self):
        self.assertEqual(tidied([("keep", 1), ("swap", [], []), ("keep", 1)]), [("keep", 2)])
        parts = [("swap", ["a"], []), ("keep", 0), ("swap", [], ["b"])]
        self.assertEqual(tidied(parts), [("swap", ["a"], ["b"])])

    def test_the_parts_are_not_changed(self):
        parts = [("swap", ["a"], ["x"]), ("swap", ["b"], ["y"]), ("keep", 1), ("keep", 0)]
        before = copy.deepcopy(parts)
        tidied(parts)
        self.assertEqual(parts, before)


if __name__ == "__main__":
    unittest.main()
