import time
import unittest

from helper import (SECONDS, all_rows, edge_pairs, has_pairs_in_order, has_pairs_in_order_fast, is_change, is_count,
                    kept_by, large_pairs, like_pairs, mixed_row, moved_by, parts_of, row_behind)
from rowmend.blocks import size_of
from rowmend.comparing import change_of, cover


def small_rows():
    """Every row of up to four lines of three, and of up to six lines of two."""
    return [all_rows(["a", "b", ""], 4), all_rows(["a", "b"], 6)]


def some_pairs():
    """Pairs of rows of middling length, of few lines and of many."""
    return [(mixed_row(length, kinds, length + kinds), mixed_row(length + more, kinds, 99 * length + kinds))
            for length in (5, 8, 10) for more in (-4, 0, 2) for kinds in (2, 3, 5, 12)]


class ChangeTest(unittest.TestCase):
    def check(self, old, new):
        change = change_of(old, new)
        self.assertTrue(is_change(change), (old, new, change))
        self.assertEqual(row_behind(change, old), new, (old, new, change))
        return change

    def check_least(self, old, new, most_kept):
        change = self.check(old, new)
        self.assertEqual(moved_by(change), len(old) + len(new) - 2 * most_kept, (old, new, change))
        self.assertEqual(size_of(change), moved_by(change))

    def test_no_change_of_small_rows_is_less(self):
        for rows in small_rows():
            parts = [parts_of(row) for row in rows]
            for old, old_parts in zip(rows, parts):
                for new, new_parts in zip(rows, parts):
                    self.check_least(old, new, max(len(part) for part in old_parts & new_parts))

    def test_no_change_of_middling_rows_is_less(self):
        for old, new in some_pairs():
            self.check_least(old, new, max(len(part) for part in parts_of(old) & parts_of(new)))

    def test_edges(self):
        for old, new in edge_pairs():
            self.check(old, new)

    def test_rows_without_lines(self):
        self.assertEqual(change_of([], []), [])
        self.assertEqual(change_of([], ["a", "b"]), [("swap", [], ["a", "b"])])
        self.assertEqual(change_of(["a", "b"], []), [("swap", ["a", "b"], [])])
        self.assertEqual(change_of([], [""]), [("swap", [], [""])])
        self.assertEqual(change_of([""], []), [("swap", [""], [])])

    def test_rows_alike(self):
        self.assertEqual(change_of(["a"], ["a"]), [("keep", 1)])
        self.assertEqual(change_of([""], [""]), [("keep", 1)])
        self.assertEqual(change_of(["a", "", "a", "b"], ["a", "", "a", "b"]), [("keep", 4)])

    def test_nothing_in_common(self):
        self.assertEqual(change_of(["a"], ["b"]), [("swap", ["a"], ["b"])])
        self.assertEqual(change_of(["a", "b"], ["c", "", "d"]), [("swap", ["a", "b"], ["c", "", "d"])])

    def test_lines_that_only_look_alike_are_not_kept(self):
        old = ["a", "", "1", "b "]
        new = ["A", " ", "01", "b"]
        self.assertEqual(change_of(old, new), [("swap", old, new)])

    def test_where_only_one_change_is_least(self):
        self.assertEqual(change_of(["a", "b", "c"], ["a", "x", "c"]),
                         [("keep", 1), ("swap", ["b"], ["x"]), ("keep", 1)])
        self.assertEqual(change_of(["a", "b", "c"], ["b"]), [("swap", ["a"], []), ("keep", 1), ("swap", ["c"], [])])
        self.assertEqual(change_of(["b"], ["a", "b", "c"]), [("swap", [], ["a"]), ("keep", 1), ("swap", [], ["c"])])
        self.assertEqual(change_of(["a", "b", "c", "d"], ["b", "c", "d", "a"]),
                         [("swap", ["a"], []), ("keep", 3), ("swap", [], ["a"])])

    def test_many_equal_lines(self):
        for count in range(6):
            for more in range(6):
                self.check_least(["a"] * count, ["a"] * more, min(count, more))
                self.check_least([""] * count + ["b"], ["b"] + [""] * more, max(1, min(count, more)))

    def test_large_rows_whose_answer_is_known(self):
        numbers = [str(number) for number in range(400)]
        self.assertEqual(change_of(numbers, list(numbers)), [("keep", 400)])
        self.assertEqual(change_of(["a"] * 400, ["a"] * 400), [("keep", 400)])
        self.check_least(numbers, numbers[::-1], 1)
        self.check_least(numbers, numbers[200:] + numbers[:200], 200)
        self.check_least(numbers, numbers[1::2], 200)
        self.check_least(["a", "b"] * 200, ["b", "a"] * 200, 399)
        self.check_least(["a"] * 400, ["b"] * 399 + ["a"], 1)

    def test_large_rows_in_time(self):
        for old, new in large_pairs():
            start = time.monotonic()
            self.check(old, new)
            self.assertLess(time.monotonic() - start, SECONDS)

    def test_the_rows_are_not_changed(self):
        for old, new in edge_pairs() + large_pairs():
            old_before = list(old)
            new_before = list(new)
            change = change_of(old, new)
            self.assertEqual((old, new), (old_before, new_before))
            for block in change:
                if block[0] == "swap":
                    block[1].append("more")
                    block[2].append("more")
            self.assertEqual((old, new), (old_before, new_before))

    def test_one_row_handed_in_twice(self):
        row = ["a", "b", "a"]
        self.assertEqual(change_of(row, row), [("keep", 3)])
        self.assertEqual(row, ["a", "b", "a"])

    def test_the_same_is_told_again(self):
        for old, new in edge_pairs() + some_pairs():
            self.assertEqual(change_of(old, new), change_of(list(old), list(new)))

    def test_the_arguments_have_their_names(self):
        self.assertEqual(change_of(new=["b"], old=["a"]), [("swap", ["a"], ["b"])])


class CoverTest(unittest.TestCase):
    def check(self, old, new, with_pairs_in_order):
        layers = cover(old, new)
        self.assertIsInstance(layers, list)
        for layer in layers:
            self.assertIsInstance(layer, list)
            self.assertTrue(all(isinstance(pair, tuple) and len(pair) == 2 for pair in layer))
            self.assertTrue(all(is_count(pair[0]) and is_count(pair[1]) for pair in layer))
            self.assertFalse(with_pairs_in_order(layer), (old, new, layers))
        self.assertEqual(sorted(pair for layer in layers for pair in layer), like_pairs(old, new))
        self.assertEqual(len(layers), kept_by(change_of(old, new)), (old, new, layers))
        return layers

    def test_small_rows(self):
        for rows in small_rows():
            for old in rows:
                for new in rows:
                    self.check(old, new, has_pairs_in_order)

    def test_middling_rows(self):
        for old, new in some_pairs():
            self.check(old, new, has_pairs_in_order)

    def test_edges(self):
        for old, new in edge_pairs():
            self.check(old, new, has_pairs_in_order)

    def test_no_like_pairs(self):
        self.assertEqual(cover([], []), [])
        self.assertEqual(cover([], ["a", "b"]), [])
        self.assertEqual(cover(["a", "b"], []), [])
        self.assertEqual(cover([""], []), [])
        self.assertEqual(cover(["a", "b"], ["c", ""]), [])

    def test_one_like_pair(self):
        self.assertEqual(cover(["a"], ["a"]), [[(0, 0)]])
        self.assertEqual(cover([""], [""]), [[(0, 0)]])
        self.assertEqual(cover(["a", "b", "c"], ["d", "c"]), [[(2, 1)]])

    def test_places_are_of_the_old_row_first(self):
        self.assertEqual(cover(["x", "y", "a"], ["a"]), [[(2, 0)]])
        self.assertEqual(cover(["a"], ["x", "y", "a"]), [[(0, 2)]])

    def test_pairs_not_in_order_share_a_layer(self):
        self.assertEqual([sorted(layer) for layer in cover(["a", "b"], ["b", "a"])], [[(0, 1), (1, 0)]])
        self.assertEqual([sorted(layer) for layer in cover(["a"], ["a", "a"])], [[(0, 0), (0, 1)]])
        self.assertEqual([sorted(layer) for layer in cover(["a", "a"], ["a"])], [[(0, 0), (1, 0)]])

    def test_pairs_in_order_stand_apart(self):
        self.assertEqual(sorted(cover(["a", "b"], ["a", "b"])), [[(0, 0)], [(1, 1)]])

    def test_large_rows_in_time(self):
        for old, new in large_pairs():
            start = time.monotonic()
            self.check(old, new, has_pairs_in_order_fast)
            self.assertLess(time.monotonic() - start, SECONDS)

    def test_the_fast_check_agrees_with_the_plain_one(self):
        rows = all_rows(["a", "b"], 3)
        for old in rows:
            for new in rows:
                pairs = like_pairs(old, new)
                self.assertEqual(has_pairs_in_order_fast(pairs), has_pairs_in_order(pairs), (old, new))

    def test_the_rows_are_not_changed(self):
        for old, new in edge_pairs() + large_pairs():
            old_before = list(old)
            new_before = list(new)
            cover(old, new)
            self.assertEqual((old, new), (old_before, new_before))

    def test_the_layers_are_lists_of_their_own(self):
        layers = cover(["a", "b", "c"], ["a", "b", "c"])
        layers[0].append("more")
        self.assertEqual(sorted(len(layer) for layer in layers), [1, 1, 2])

    def test_the_same_is_told_again(self):
        for old, new in edge_pairs() + some_pairs():
            self.assertEqual(cover(old, new), cover(list(old), list(new)))

    def test_the_arguments_have_their_names(self):
        self.assertEqual(cover(new=["x", "a"], old=["a"]), [[(0, 1)]])


if __name__ == "__main__":
    unittest.main()
