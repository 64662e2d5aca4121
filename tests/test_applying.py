import copy
import time
import unittest

from helper import (SECONDS, ahead_of, all_changes, all_rows, behind_of, chain_of, is_change, kept_by, large_changes,
                    leaves_alone, mixed_change, moved_by, row_behind, some_changes)
from rowmend.applying import applied, chained, turned
from rowmend.blocks import size_of
from rowmend.comparing import change_of
from rowmend.errors import MendError, NoFit

PUTS = [[], ["a"], ["b"], ["b", "a"]]
MANY = 10 ** 69 + 7


def told_changes(longest):
    """Every change, once, of any row of up to so many lines of two."""
    changes = []
    for row in all_rows(["a", "b"], longest):
        for change in all_changes(row, PUTS):
            if change not in changes:
                changes.append(change)
    return changes


def rows_near(row):
    """Rows that are one line more, one line less, or one line away from another."""
    near = []
    for place in range(len(row) + 1):
        near.append(row[:place] + ["z"] + row[place:])
    for place in range(len(row)):
        near.append(row[:place] + row[place + 1:])
        near.append(row[:place] + [row[place] + "z"] + row[place + 1:])
    return near


class TriedChangesTest(unittest.TestCase):
    """The changes that the tests try are of point 2's form, or the tests would say little."""

    def test_small_changes(self):
        for change in told_changes(2):
            self.assertTrue(is_change(change), change)

    def test_changes_of_rows(self):
        for row, change in some_changes() + large_changes():
            self.assertTrue(is_change(change), change)
            self.assertIsNotNone(row_behind(change, row))
            other = mixed_change(row, 3, ["x", "y"], 2)
            self.assertTrue(is_change(other), other)
            self.assertIsNotNone(row_behind(other, row))


class AppliedTest(unittest.TestCase):
    def refused(self, change, row):
        with self.assertRaises(NoFit, msg=(change, row)):
            applied(change, row)
        with self.assertRaises(MendError):
            applied(change, row)

    def check(self, change, row):
        wanted = row_behind(change, row)
        if wanted is None:
            self.refused(change, row)
        else:
            behind = applied(change, row)
            self.assertIsInstance(behind, list)
            self.assertEqual(behind, wanted, (change, row))

    def test_a_change_on_its_row(self):
        self.assertEqual(applied([("keep", 1), ("swap", ["b"], ["x", "y"]), ("keep", 1)], ["a", "b", "c"]),
                         ["a", "x", "y", "c"])
        self.assertEqual(applied([("swap", ["a"], []), ("keep", 1), ("swap", ["c"], [])], ["a", "b", "c"]), ["b"])
        self.assertEqual(applied([("swap", [], ["x"]), ("keep", 2), ("swap", [], ["", "y"])], ["a", "b"]),
                         ["x", "a", "b", "", "y"])
        self.assertEqual(applied([("swap", ["a", "b"], ["b", "a"])], ["a", "b"]), ["b", "a"])
        self.assertEqual(applied([("swap", ["a", "b"], [])], ["a", "b"]), [])

    def test_the_lines_that_are_kept_are_whichever_stand_there(self):
        for row in (["a", "b"], ["", ""], ["x", "a"]):
            self.assertEqual(applied([("keep", 2)], row), row)
            self.assertEqual(applied([("keep", 1), ("swap", [], ["+"]), ("keep", 1)], row), [row[0], "+", row[1]])

    def test_each_change_on_its_row_and_on_rows_near_it(self):
        for row, change in some_changes():
            self.assertIsNotNone(row_behind(change, row))
            self.check(change, row)
            for near in rows_near(row):
                self.check(change, near)

    def test_every_small_change_on_every_small_row(self):
        rows = all_rows(["a", "b"], 3)
        for change in told_changes(2):
            for row in rows:
                self.check(change, row)

    def test_one_line_more(self):
        change = [("keep", 1), ("swap", ["b"], ["x"]), ("keep", 1)]
        self.refused(change, ["a", "b", "c", "d"])
        self.refused(change, ["a", "b", "c", "c"])
        self.refused(change, ["a", "b", "b", "c"])
        self.refused([("keep", 2)], ["a", "b", "c"])
        self.refused([("swap", ["a"], ["b"])], ["a", "a"])
        self.refused([("swap", [], ["b"])], ["a"])
        self.refused([("keep", 1), ("swap", ["b"], [])], ["a", "b", ""])

    def test_one_line_less(self):
        change = [("keep", 1), ("swap", ["b"], ["x"]), ("keep", 1)]
        self.refused(change, ["a", "b"])
        self.refused(change, ["b", "c"])
        self.refused([("keep", 2)], ["a"])
        self.refused([("keep", 1)], [])
        self.refused([("swap", ["a"], ["b"])], [])
        self.refused([("swap", [""], ["b"])], [])
        self.refused([("swap", ["a", "b"], [])], ["a"])
        self.refused([("keep", 1), ("swap", ["b"], [])], ["a"])

    def test_another_line_than_the_one_that_is_cut(self):
        change = [("keep", 1), ("swap", ["b"], ["x"]), ("keep", 1)]
        for line in ("a", "c", "x", "", " b", "b ", "B", "bb"):
            self.refused(change, ["a", line, "c"])
        self.refused([("swap", ["a", "b"], [])], ["a", "c"])
        self.refused([("swap", ["a", "b"], [])], ["c", "b"])
        self.refused([("swap", ["a", "b"], [])], ["b", "a"])
        self.refused([("swap", [""], [])], [" "])
        self.refused([("swap", ["a"], []), ("keep", 1), ("swap", ["c"], [])], ["a", "b", "d"])
        self.refused([("swap", ["a"], []), ("keep", 1), ("swap", ["c"], [])], ["d", "b", "c"])

    def test_a_keep_over_the_end_is_not_made_good_by_the_rest(self):
        self.refused([("keep", 3), ("swap", [], ["x"])], ["a", "b"])
        self.refused([("keep", 3), ("swap", ["b"], ["x"])], ["a", "b"])
        self.refused([("keep", 2), ("swap", ["b"], ["x"])], ["a", "b"])

    def test_a_keep_of_very_many_lines(self):
        self.refused([("keep", MANY)], ["a", "b"])
        self.refused([("keep", MANY)], [])
        self.refused([("keep", MANY), ("swap", ["b"], [])], ["a", "b"])
        self.refused([("swap", ["a"], []), ("keep", MANY), ("swap", [], ["a"]), ("keep", MANY)], ["a", "b"])

    def test_the_empty_change(self):
        self.assertEqual(applied([], []), [])
        self.refused([], ["a"])
        self.refused([], [""])

    def test_the_change_between_two_rows(self):
        rows = all_rows(["a", "b", ""], 3)
        for old in rows:
            for new in rows:
                self.assertEqual(applied(change_of(old, new), old), new)

    def test_large_rows_in_time(self):
        for row, change in large_changes():
            start = time.monotonic()
            self.check(change, row)
            self.check(change, row + ["more"])
            self.check(change, row[:-1])
            self.assertLess(time.monotonic() - start, SECONDS)

    def test_nothing_handed_in_is_changed(self):
        for row, change in some_changes() + large_changes():
            self.assertTrue(leaves_alone(applied, change, row))

    def test_nothing_handed_in_is_changed_by_a_refusal(self):
        change = [("keep", 1), ("swap", ["b"], ["x"]), ("keep", 2)]
        row = ["a", "b", "c"]
        before = copy.deepcopy((change, row))
        self.refused(change, row)
        self.assertEqual((change, row), before)

    def test_the_arguments_have_their_names(self):
        self.assertEqual(applied(row=["a"], change=[("swap", ["a"], ["b"])]), ["b"])


class TurnedTest(unittest.TestCase):
    def check(self, change, row):
        back = turned(change)
        self.assertTrue(is_change(back), (change, back))
        self.assertEqual(row_behind(back, row_behind(change, row)), row, (change, back))
        self.assertEqual(applied(back, applied(change, row)), row, (change, back))
        self.assertEqual(size_of(back), size_of(change))
        self.assertEqual(moved_by(back), moved_by(change))
        self.assertEqual(kept_by(back), kept_by(change))
        self.assertEqual(turned(back), change)

    def test_keeps_stay_and_lists_change_places(self):
        self.assertEqual(turned([("keep", 2), ("swap", ["a"], ["b", ""])]), [("keep", 2), ("swap", ["b", ""], ["a"])])
        self.assertEqual(turned([("swap", ["a", "b"], []), ("keep", 1), ("swap", [], ["c", "d"])]),
                         [("swap", [], ["a", "b"]), ("keep", 1), ("swap", ["c", "d"], [])])
        self.assertEqual(turned([("swap", ["a"], ["a"])]), [("swap", ["a"], ["a"])])

    def test_the_blocks_and_the_lines_stay_in_order(self):
        self.assertEqual(turned([("keep", 1), ("swap", ["a", "b"], ["c", "d", "e"]), ("keep", 3)]),
                         [("keep", 1), ("swap", ["c", "d", "e"], ["a", "b"]), ("keep", 3)])

    def test_keeps_alone(self):
        self.assertEqual(turned([]), [])
        self.assertEqual(turned([("keep", 1)]), [("keep", 1)])
        self.assertEqual(turned([("keep", MANY)]), [("keep", MANY)])

    def test_every_small_change(self):
        for row in all_rows(["a", "b"], 2):
            for change in all_changes(row, PUTS):
                self.check(change, row)

    def test_edges(self):
        for row, change in some_changes():
            self.check(change, row)

    def test_large_rows_in_time(self):
        for row, change in large_changes():
            start = time.monotonic()
            self.check(change, row)
            self.assertLess(time.monotonic() - start, SECONDS)

    def test_nothing_handed_in_is_changed(self):
        for row, change in some_changes() + large_changes():
            self.assertTrue(leaves_alone(turned, change))

    def test_the_argument_has_its_name(self):
        self.assertEqual(turned(change=[("swap", ["a"], ["b"])]), [("swap", ["b"], ["a"])])


class ChainedTest(unittest.TestCase):
    def refused(self, first, second):
        with self.assertRaises(NoFit, msg=(first, second)):
            chained(first, second)
        with self.assertRaises(MendError):
            chained(first, second)

    def check(self, first, second):
        """What a change tells of both rows leaves only one change of point 2's form."""
        wanted = chain_of(first, second)
        if wanted is None:
            self.refused(first, second)
        else:
            change = chained(first, second)
            self.assertTrue(is_change(change), (first, second, change))
            self.assertEqual((ahead_of(change), behind_of(change)), wanted, (first, second, change))

    def check_on(self, row, first, second):
        self.check(first, second)
        self.assertEqual(applied(chained(first, second), row), applied(second, applied(first, row)), (first, second))

    def test_the_example_of_the_document(self):
        self.assertEqual(chained([("swap", ["a"], ["b", "c"])], [("swap", ["b"], []), ("keep", 1)]),
                         [("swap", ["a"], ["c"])])

    def test_every_two_small_changes(self):
        changes = told_changes(2)
        for first in changes:
            for second in changes:
                self.check(first, second)

    def test_every_small_change_and_those_of_the_row_behind_it(self):
        for row in [["a"], ["a", "b"], ["a", "b", "a"]]:
            for first in all_changes(row, [[], ["c", "c"]]):
                behind = applied(first, row)
                for second in all_changes(behind, [[], ["d"]] if len(behind) < 5 else [[]]):
                    self.check_on(row, first, second)

    def test_what_is_put_and_cut_again_is_gone(self):
        self.assertEqual(chained([("swap", [], ["a"])], [("swap", ["a"], [])]), [])
        self.assertEqual(chained([("swap", [], ["", "a", ""])], [("swap", ["", "a", ""], [])]), [])
        self.assertEqual(chained([("swap", ["a"], ["b"])], [("swap", ["b"], ["c"])]), [("swap", ["a"], ["c"])])
        self.assertEqual(chained([("swap", ["a"], ["b"])], [("swap", ["b"], ["a"])]), [("swap", ["a"], ["a"])])
        self.assertEqual(chained([("swap", [], ["a", "b", "c"])], [("keep", 1), ("swap", ["b"], []), ("keep", 1)]),
                         [("swap", [], ["a", "c"])])
        self.assertEqual(chained([("swap", ["x"], ["a", "b", "c"])], [("swap", ["a"], []), ("keep", 1),
                                                                     ("swap", ["c"], [])]), [("swap", ["x"], ["b"])])

    def test_no_empty_swap_is_left_and_its_neighbours_are_one_keep(self):
        self.assertEqual(chained([("keep", 1), ("swap", [], ["a"]), ("keep", 2)],
                                 [("keep", 1), ("swap", ["a"], []), ("keep", 2)]), [("keep", 3)])
        self.assertEqual(chained([("keep", 1), ("swap", [], ["a"])], [("keep", 1), ("swap", ["a"], [])]),
                         [("keep", 1)])
        self.assertEqual(chained([("swap", [], ["a"]), ("keep", 1)], [("swap", ["a"], []), ("keep", 1)]),
                         [("keep", 1)])

    def test_swaps_that_come_to_be_neighbours_are_one_swap(self):
        self.assertEqual(chained([("swap", ["a"], []), ("keep", 1), ("swap", ["c"], ["d"])],
                                 [("swap", ["b"], []), ("keep", 1)]), [("swap", ["a", "b", "c"], ["d"])])
        self.assertEqual(chained([("keep", 2), ("swap", ["c"], [])], [("keep", 1), ("swap", ["b"], [])]),
                         [("keep", 1), ("swap", ["b", "c"], [])])
        self.assertEqual(chained([("swap", ["a"], []), ("keep", 1)], [("swap", [], ["b"]), ("keep", 1)]),
                         [("swap", ["a"], ["b"]), ("keep", 1)])
        self.assertEqual(chained([("swap", [], ["x"]), ("keep", 1)], [("swap", [], ["w"]), ("keep", 1),
                                                                     ("swap", [], ["y"]), ("keep", 1)]),
                         [("swap", [], ["w", "x", "y"]), ("keep", 1)])

    def test_just_the_lines_that_both_keep_are_kept(self):
        self.assertEqual(chained([("keep", 3), ("swap", ["d"], ["e"])], [("swap", ["a"], []), ("keep", 3)]),
                         [("swap", ["a"], []), ("keep", 2), ("swap", ["d"], ["e"])])
        # A line cut by the one and put again by the other is not kept, though it stays in its place.
        self.assertEqual(chained([("swap", ["a"], [])], [("swap", [], ["a"])]), [("swap", ["a"], ["a"])])
        self.assertEqual(chained([("keep", 1)], [("swap", ["a"], ["a"])]), [("swap", ["a"], ["a"])])
        self.assertEqual(chained([("swap", ["a"], ["a"])], [("keep", 1)]), [("swap", ["a"], ["a"])])

    def test_a_kept_line_is_cut_as_whichever_line_is_told(self):
        for line in ("a", "z", "", "=1"):
            self.assertEqual(chained([("keep", 1)], [("swap", [line], [])]), [("swap", [line], [])])
            self.assertEqual(chained([("keep", 2), ("swap", ["c"], ["x"])], [("keep", 1), ("swap", [line, "x"], ["y"])]),
                             [("keep", 1), ("swap", [line, "c"], ["y"])])

    def test_another_number_of_lines_is_refused(self):
        self.refused([], [("keep", 1)])
        self.refused([("keep", 1)], [])
        self.refused([], [("swap", ["a"], [])])
        self.refused([("swap", [], ["a"])], [])
        self.refused([("keep", 2)], [("keep", 1)])
        self.refused([("keep", 2)], [("keep", 3)])
        self.refused([("keep", 2)], [("keep", 2), ("swap", ["a"], [])])
        self.refused([("keep", 2)], [("keep", 1), ("swap", [], ["a"])])
        self.refused([("swap", ["a"], [])], [("swap", ["a"], [])])
        self.refused([("swap", ["a", "b"], ["c"])], [("keep", 2)])
        self.refused([("swap", ["a"], ["b", "c"])], [("swap", ["b"], [])])
        self.refused([("swap", ["a"], ["b"])], [("swap", ["b", "c"], [])])
        self.refused([("keep", 1), ("swap", [], ["a"])], [("keep", 1)])
        self.refused([("keep", 1)], [("keep", 1), ("swap", [], ["a"]), ("keep", 1)])
        self.refused([("keep", 1), ("swap", ["a"], []), ("keep", 1)], [("keep", 1), ("swap", [], ["a"])])

    def test_another_line_than_the_one_that_was_put_is_refused(self):
        self.refused([("swap", [], ["a"])], [("swap", ["b"], [])])
        self.refused([("swap", [], ["a"])], [("swap", [""], [])])
        self.refused([("swap", [], [""])], [("swap", [" "], [])])
        self.refused([("swap", ["b"], ["a"])], [("swap", ["b"], ["a"])])
        self.refused([("swap", [], ["a", "b"])], [("swap", ["a", "c"], [])])
        self.refused([("swap", [], ["a", "b"])], [("swap", ["b", "a"], [])])
        self.refused([("swap", [], ["a", "b"])], [("keep", 1), ("swap", ["a"], [])])
        self.refused([("keep", 1), ("swap", [], ["a"]), ("keep", 1)], [("swap", ["x", "b", "y"], [])])
        self.refused([("keep", 1), ("swap", [], ["a"]), ("keep", 1)], [("keep", 1), ("swap", ["y"], ["a"]), ("keep", 1)])

    def test_no_line_between_the_two(self):
        self.assertEqual(chained([], []), [])
        self.assertEqual(chained([], [("swap", [], ["a"])]), [("swap", [], ["a"])])
        self.assertEqual(chained([("swap", ["a"], [])], []), [("swap", ["a"], [])])
        self.assertEqual(chained([("swap", ["a"], [])], [("swap", [], ["b"])]), [("swap", ["a"], ["b"])])

    def test_keeps_of_very_many_lines(self):
        self.assertEqual(chained([("keep", MANY)], [("keep", MANY)]), [("keep", MANY)])
        self.assertEqual(chained([("keep", MANY), ("swap", ["a"], ["b"])], [("swap", ["x"], []), ("keep", MANY)]),
                         [("swap", ["x"], []), ("keep", MANY - 1), ("swap", ["a"], ["b"])])
        self.assertEqual(chained([("keep", 5), ("swap", [], ["a"]), ("keep", MANY)],
                                 [("keep", 5), ("swap", ["a"], []), ("keep", MANY)]), [("keep", MANY + 5)])
        self.refused([("keep", MANY)], [("keep", MANY + 1)])
        self.refused([("keep", MANY)], [("keep", MANY - 1)])

    def test_a_change_and_the_same_turned_round(self):
        for row, change in some_changes() + large_changes():
            both = chained(change, turned(change))
            self.assertEqual(applied(both, row), row)
            self.assertEqual(kept_by(both), kept_by(change))
            self.check_on(row, change, turned(change))

    def test_a_change_and_one_that_keeps_all(self):
        for row, change in some_changes() + large_changes():
            behind = applied(change, row)
            self.assertEqual(chained(change, [("keep", len(behind))] if behind else []), change)
            self.assertEqual(chained([("keep", len(row))] if row else [], change), change)

    def test_longer_rows(self):
        for seed in range(60):
            row = [str(number % 5) for number in range(12 + seed % 7)]
            first = mixed_change(row, seed, ["x", "y", "z"], 2 + seed % 4)
            second = mixed_change(applied(first, row), seed + 500, ["x", "w"], 2 + seed % 3)
            self.check_on(row, first, second)

    def test_three_changes_chained_either_way(self):
        for seed in range(40):
            row = [str(number % 3) for number in range(8)]
            first = mixed_change(row, seed, ["x", "y"], 3)
            second = mixed_change(applied(first, row), seed + 100, ["x", "z"], 3)
            third = mixed_change(applied(second, applied(first, row)), seed + 200, ["w"], 3)
            self.assertEqual(chained(chained(first, second), third), chained(first, chained(second, third)))

    def test_large_rows_in_time(self):
        for row, first in large_changes():
            behind = applied(first, row)
            for touches in (2, 5):
                second = mixed_change(behind, 11, ["x", "y"], touches)
                start = time.monotonic()
                change = chained(first, second)
                self.assertLess(time.monotonic() - start, SECONDS)
                self.assertTrue(is_change(change))
                self.assertEqual((ahead_of(change), behind_of(change)), chain_of(first, second))
                self.assertEqual(applied(change, row), applied(second, behind))

    def test_nothing_handed_in_is_changed(self):
        for row, first in some_changes() + large_changes():
            second = mixed_change(applied(first, row), 17, ["x", "y"], 2)
            self.assertTrue(leaves_alone(chained, first, second))
            self.assertTrue(leaves_alone(chained, first, turned(first)))
        self.assertTrue(leaves_alone(chained, [("swap", ["a"], [])], [("swap", [], ["b"])]))

    def test_nothing_handed_in_is_changed_by_a_refusal(self):
        first = [("keep", 1), ("swap", ["a"], ["b", "c"])]
        second = [("keep", 1), ("swap", ["b", "d"], ["x"])]
        before = copy.deepcopy((first, second))
        self.refused(first, second)
        self.assertEqual((first, second), before)

    def test_one_change_handed_in_twice(self):
        change = [("swap", ["a"], ["a", "b"]), ("keep", 1)]
        self.refused(change, change)
        self.assertEqual(change, [("swap", ["a"], ["a", "b"]), ("keep", 1)])
        change = [("swap", ["a"], ["a"])]
        self.assertEqual(chained(change, change), [("swap", ["a"], ["a"])])
        self.assertEqual(change, [("swap", ["a"], ["a"])])

    def test_the_arguments_have_their_names(self):
        self.assertEqual(chained(second=[("swap", ["b"], ["c"])], first=[("swap", ["a"], ["b"])]),
                         [("swap", ["a"], ["c"])])


if __name__ == "__main__":
    unittest.main()
