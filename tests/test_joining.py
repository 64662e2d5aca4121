import copy
import time
import unittest

from helper import (SECONDS, all_changes, all_rows, is_lines, large_changes, leaves_alone, mixed_change, pieces_of,
                    row_behind, some_changes)
from rowmend.comparing import change_of
from rowmend.errors import MendError, NoFit
from rowmend.joining import joined, merged

ROW = ["a", "b", "c"]
MANY = 10 ** 69 + 7


def turned_about(pieces):
    """The pieces where the two hands change places."""
    about = {"same": "same", "both": "both", "one": "other", "other": "one", "clash": "clash"}
    turned = []
    for piece in pieces:
        lists = piece[1:]
        if piece[0] == "clash":
            lists = (piece[1], piece[3], piece[2])
        turned.append((about[piece[0]],) + lists)
    return turned


def merged_of(pieces):
    lines = []
    for piece in pieces:
        if piece[0] == "clash":
            return None
        lines.extend(piece[1] if piece[0] == "same" else piece[2])
    return lines


class JoinTest(unittest.TestCase):
    """The checks that the tests of this file share."""

    def check(self, row, one, other):
        pieces = joined(row, one, other)
        self.assertEqual(pieces, pieces_of(row, one, other), (row, one, other))
        self.assertEqual(merged(row, one, other), merged_of(pieces), (row, one, other))
        return pieces

    def check_told(self, row, one, other, pieces):
        self.assertEqual(joined(row, one, other), pieces)
        self.assertEqual(joined(row, other, one), turned_about(pieces))
        self.assertEqual(self.check(row, one, other), pieces)

    def check_form(self, row, pieces):
        self.assertIsInstance(pieces, list)
        lengths = {"same": 2, "both": 3, "one": 3, "other": 3, "clash": 4}
        for piece in pieces:
            self.assertIsInstance(piece, tuple)
            self.assertEqual(len(piece), lengths[piece[0]])
            self.assertTrue(all(is_lines(lines) for lines in piece[1:]))
            self.assertTrue(any(piece[1:]))
        self.assertEqual([line for piece in pieces for line in piece[1]], row)
        for ahead, behind in zip(pieces, pieces[1:]):
            self.assertNotEqual(ahead[0] == "same", behind[0] == "same")

    def refused(self, row, one, other):
        for function in (joined, merged):
            for refusal in (NoFit, MendError):
                with self.assertRaises(refusal, msg=(row, one, other)):
                    function(row, one, other)


class JoinedTest(JoinTest):
    def test_the_first_example_of_the_document(self):
        one = [("keep", 1), ("swap", [], ["x"]), ("keep", 2)]
        other = [("keep", 2), ("swap", ["c"], [])]
        self.check_told(ROW, one, other,
                        [("same", ["a"]), ("one", [], ["x"]), ("same", ["b"]), ("other", ["c"], [])])

    def test_the_second_example_of_the_document(self):
        one = [("keep", 1), ("swap", [], ["x"]), ("keep", 2)]
        other = [("keep", 1), ("swap", ["b", "c"], [])]
        self.check_told(ROW, one, other, [("same", ["a"]), ("clash", ["b", "c"], ["x", "b", "c"], [])])

    def test_nothing_touched(self):
        self.check_told(ROW, [("keep", 3)], [("keep", 3)], [("same", ["a", "b", "c"])])
        self.check_told([""], [("keep", 1)], [("keep", 1)], [("same", [""])])
        self.check_told([], [], [], [])

    def test_both_make_the_same(self):
        one = [("keep", 1), ("swap", ["b"], ["x"]), ("keep", 1)]
        self.check_told(ROW, one, list(one), [("same", ["a"]), ("both", ["b"], ["x"]), ("same", ["c"])])
        self.check_told(ROW, [("swap", ROW, [])], [("swap", ROW, [])], [("both", ["a", "b", "c"], [])])
        self.check_told(ROW, [("keep", 3), ("swap", [], ["d"])], [("keep", 3), ("swap", [], ["d"])],
                        [("same", ["a", "b", "c"]), ("both", [], ["d"])])

    def test_both_make_the_same_in_two_ways(self):
        one = [("swap", ["a"], ["a", "x"]), ("keep", 2)]
        other = [("keep", 1), ("swap", [], ["x"]), ("keep", 2)]
        self.check_told(ROW, one, other, [("both", ["a"], ["a", "x"]), ("same", ["b", "c"])])

    def test_one_alone(self):
        one = [("keep", 1), ("swap", ["b"], ["x", "y"]), ("keep", 1)]
        self.check_told(ROW, one, [("keep", 3)], [("same", ["a"]), ("one", ["b"], ["x", "y"]), ("same", ["c"])])
        self.check_told(ROW, [("swap", ["a", "b", "c"], ["x"])], [("keep", 3)], [("one", ["a", "b", "c"], ["x"])])

    def test_other_alone(self):
        other = [("swap", ["a"], []), ("keep", 2), ("swap", [], ["d"])]
        self.check_told(ROW, [("keep", 3)], other, [("other", ["a"], []), ("same", ["b", "c"]), ("other", [], ["d"])])

    def test_a_clash(self):
        one = [("keep", 1), ("swap", ["b"], ["x"]), ("keep", 1)]
        other = [("keep", 1), ("swap", ["b"], ["y"]), ("keep", 1)]
        self.check_told(ROW, one, other, [("same", ["a"]), ("clash", ["b"], ["x"], ["y"]), ("same", ["c"])])

    def test_a_clash_over_stretches_that_only_overlap(self):
        one = [("swap", ["a", "b"], ["x"]), ("keep", 1)]
        other = [("keep", 1), ("swap", ["b", "c"], ["y"])]
        self.check_told(ROW, one, other, [("clash", ["a", "b", "c"], ["x", "c"], ["a", "y"])])

    def test_stretches_that_only_touch_are_one(self):
        one = [("swap", ["a"], ["x"]), ("keep", 2)]
        other = [("keep", 1), ("swap", ["b"], ["y"]), ("keep", 1)]
        self.check_told(ROW, one, other, [("clash", ["a", "b"], ["x", "b"], ["a", "y"]), ("same", ["c"])])
        other = [("keep", 1), ("swap", [], ["y"]), ("keep", 2)]
        self.check_told(ROW, one, other, [("clash", ["a"], ["x"], ["a", "y"]), ("same", ["b", "c"])])
        other = [("swap", [], ["y"]), ("keep", 3)]
        self.check_told(ROW, one, other, [("clash", ["a"], ["x"], ["y", "a"]), ("same", ["b", "c"])])

    def test_a_chain_of_stretches_that_overlap_is_one(self):
        row = ["a", "b", "c", "d", "e"]
        one = [("swap", ["a", "b"], []), ("keep", 1), ("swap", ["d"], []), ("keep", 1)]
        other = [("keep", 1), ("swap", ["b", "c"], []), ("keep", 1), ("swap", ["e"], [])]
        self.check_told(row, one, other, [("clash", row, ["c", "e"], ["a", "d"])])

    def test_pieces_without_lines_of_the_row(self):
        self.check_told([], [("swap", [], ["x"])], [], [("one", [], ["x"])])
        self.check_told([], [("swap", [], ["x"])], [("swap", [], ["x"])], [("both", [], ["x"])])
        self.check_told([], [("swap", [], ["x"])], [("swap", [], ["y"])], [("clash", [], ["x"], ["y"])])
        self.check_told([], [("swap", [], [""])], [], [("one", [], [""])])
        one = [("swap", [], ["x"]), ("keep", 1), ("swap", [], ["y"]), ("keep", 2), ("swap", [], ["z"])]
        self.check_told(ROW, one, [("keep", 3)], [("one", [], ["x"]), ("same", ["a"]), ("one", [], ["y"]),
                                                  ("same", ["b", "c"]), ("one", [], ["z"])])
        other = [("keep", 1), ("swap", [], ["y"]), ("keep", 2), ("swap", [], ["w"])]
        self.check_told(ROW, one, other, [("one", [], ["x"]), ("same", ["a"]), ("both", [], ["y"]),
                                          ("same", ["b", "c"]), ("clash", [], ["z"], ["w"])])

    def test_lines_at_the_beginning_and_the_end_of_a_stretch_belong_to_it(self):
        one = [("keep", 1), ("swap", [], ["x"]), ("keep", 1), ("swap", [], ["y"]), ("keep", 1)]
        other = [("keep", 1), ("swap", ["b"], []), ("keep", 1)]
        self.check_told(ROW, one, other,
                        [("same", ["a"]), ("clash", ["b"], ["x", "b", "y"], []), ("same", ["c"])])
        one = [("swap", [], ["x"]), ("keep", 3), ("swap", [], ["y"])]
        other = [("swap", ["a"], []), ("keep", 1), ("swap", ["c"], [])]
        self.check_told(ROW, one, other, [("clash", ["a"], ["x", "a"], []), ("same", ["b"]),
                                          ("clash", ["c"], ["c", "y"], [])])

    def test_lines_cut_and_put_again_are_left_as_they_were(self):
        again = [("keep", 1), ("swap", ["b"], ["b"]), ("keep", 1)]
        keeps = [("keep", 3)]
        cuts = [("keep", 1), ("swap", ["b"], []), ("keep", 1)]
        self.check_told(ROW, again, keeps, [("same", ["a"]), ("both", ["b"], ["b"]), ("same", ["c"])])
        self.check_told(ROW, again, again, [("same", ["a"]), ("both", ["b"], ["b"]), ("same", ["c"])])
        self.check_told(ROW, again, cuts, [("same", ["a"]), ("other", ["b"], []), ("same", ["c"])])
        whole = [("swap", ["a", "b", "c"], ["a", "b", "c"])]
        self.check_told(ROW, whole, keeps, [("both", ROW, ROW)])
        self.check_told(ROW, whole, cuts, [("other", ROW, ["a", "c"])])
        self.check_told(ROW, whole, again, [("both", ROW, ROW)])

    def test_only_the_whole_piece_counts(self):
        one = [("keep", 1), ("swap", ["b"], ["b"]), ("keep", 1)]
        other = [("keep", 1), ("swap", [], ["y"]), ("keep", 2)]
        self.check_told(ROW, one, other, [("same", ["a"]), ("other", ["b"], ["y", "b"]), ("same", ["c"])])
        row = ["a", "a"]
        one = [("swap", [], ["a"]), ("keep", 1), ("swap", ["a"], [])]
        self.check_told(row, one, [("keep", 2)],
                        [("one", [], ["a"]), ("same", ["a"]), ("one", ["a"], [])])
        self.check_told(row, one, [("swap", ["a"], ["x"]), ("keep", 1)], [("other", row, ["x", "a"])])

    def test_pieces_in_turn(self):
        row = ["a", "b", "c", "d", "e", "f"]
        one = [("swap", ["a"], ["x"]), ("keep", 2), ("swap", ["d"], []), ("keep", 1), ("swap", ["f"], ["g"])]
        other = [("keep", 2), ("swap", [], ["y"]), ("keep", 1), ("swap", ["d"], []), ("keep", 1), ("swap", ["f"], ["h"])]
        self.check_told(row, one, other, [
            ("one", ["a"], ["x"]), ("same", ["b"]), ("other", [], ["y"]), ("same", ["c"]), ("both", ["d"], []),
            ("same", ["e"]), ("clash", ["f"], ["g"], ["h"])])

    def test_every_two_changes_of_small_rows(self):
        puts = [[], ["a"], ["b"]]
        for row in all_rows(["a", "b"], 2) + [["", "a"]]:
            changes = all_changes(row, puts)
            for one in changes:
                for other in changes:
                    self.check_form(row, self.check(row, one, other))

    def test_every_two_changes_of_rows_of_three_lines(self):
        for row in (["a", "b", "c"], ["a", "a", "a"], ["b", "a", "a"], ["a", "b", "a"]):
            changes = all_changes(row, [[], ["a"]])
            for one in changes:
                for other in changes:
                    self.check_form(row, self.check(row, one, other))

    def test_edges(self):
        for row, one in some_changes():
            for like, other in some_changes():
                if row == like:
                    self.check_form(row, self.check(row, one, other))

    def test_longer_rows(self):
        for seed in range(80):
            row = [str(number % 4) for number in range(10 + seed % 9)]
            one = mixed_change(row, seed, ["x", "0", "1"], 2 + seed % 5)
            other = mixed_change(row, seed + 300, ["x", "0", "2"], 2 + seed % 4)
            pieces = self.check(row, one, other)
            self.check_form(row, pieces)
            self.assertEqual(joined(row, other, one), turned_about(pieces))

    def test_a_change_joined_with_itself(self):
        for row, change in some_changes() + large_changes():
            pieces = joined(row, change, change)
            self.assertLessEqual({piece[0] for piece in pieces}, {"same", "both"})
            self.assertEqual(merged(row, change, change), row_behind(change, row))

    def test_the_least_changes_to_two_rows(self):
        old = ["a", "b", "c", "d", "e"]
        one = change_of(old, ["a", "x", "b", "c", "d", "e"])
        other = change_of(old, ["a", "b", "c", "d", "f"])
        self.check_told(old, one, other, [("same", ["a"]), ("one", [], ["x"]), ("same", ["b", "c", "d"]),
                                          ("other", ["e"], ["f"])])

    def test_large_rows_in_time(self):
        for row, one in large_changes():
            for touches in (2, 30):
                other = mixed_change(row, 23, ["x", "y"], touches)
                start = time.monotonic()
                pieces = joined(row, one, other)
                lines = merged(row, one, other)
                self.assertLess(time.monotonic() - start, SECONDS)
                self.check_form(row, pieces)
                self.assertEqual(pieces, pieces_of(row, one, other))
                self.assertEqual(lines, merged_of(pieces))

    def test_nothing_handed_in_is_changed(self):
        for row, one in some_changes() + large_changes():
            other = mixed_change(row, 29, ["x", "y"], 3)
            for hand in (one, other, [("keep", len(row))] if row else []):
                self.assertTrue(leaves_alone(joined, row, one, hand))
                self.assertTrue(leaves_alone(joined, row, hand, one))

    def test_the_lists_of_a_piece_are_its_own(self):
        for row, one in some_changes():
            pieces = joined(row, one, one)
            wanted = [[lines + ["more"] for lines in piece[1:]] for piece in pieces]
            for piece in pieces:
                for lines in piece[1:]:
                    lines.append("more")
            self.assertEqual([list(piece[1:]) for piece in pieces], wanted)

    def test_the_arguments_have_their_names(self):
        self.assertEqual(joined(other=[("keep", 1)], one=[("swap", ["a"], ["x"])], row=["a"]), [("one", ["a"], ["x"])])


class MergedTest(JoinTest):
    def test_the_examples_of_the_document(self):
        one = [("keep", 1), ("swap", [], ["x"]), ("keep", 2)]
        self.assertEqual(merged(ROW, one, [("keep", 2), ("swap", ["c"], [])]), ["a", "x", "b"])
        self.assertIsNone(merged(ROW, one, [("keep", 1), ("swap", ["b", "c"], [])]))

    def test_both_hands_are_in_it(self):
        row = ["a", "b", "c", "d", "e"]
        one = [("swap", ["a"], ["x"]), ("keep", 2), ("swap", ["d"], ["y"]), ("keep", 1)]
        other = [("keep", 2), ("swap", [], ["", "z"]), ("keep", 1), ("swap", ["d"], ["y"]), ("keep", 1),
                 ("swap", [], ["f"])]
        self.assertEqual(merged(row, one, other), ["x", "b", "", "z", "c", "y", "e", "f"])
        self.assertEqual(merged(row, other, one), ["x", "b", "", "z", "c", "y", "e", "f"])

    def test_one_hand_alone(self):
        for row, change in some_changes() + large_changes():
            keeps = [("keep", len(row))] if row else []
            self.assertEqual(merged(row, change, keeps), row_behind(change, row))
            self.assertEqual(merged(row, keeps, change), row_behind(change, row))

    def test_lines_cut_and_put_again(self):
        again = [("swap", ["a", "b", "c"], ["a", "b", "c"])]
        other = [("keep", 1), ("swap", ["b"], []), ("keep", 1), ("swap", [], ["d"])]
        self.assertEqual(merged(ROW, again, other), ["a", "c", "d"])
        self.assertEqual(merged(ROW, again, again), ["a", "b", "c"])

    def test_rows_without_lines(self):
        self.assertEqual(merged([], [], []), [])
        self.assertEqual(merged([], [("swap", [], ["a"])], []), ["a"])
        self.assertEqual(merged(["a"], [("swap", ["a"], [])], [("keep", 1)]), [])
        self.assertEqual(merged(["a"], [("swap", ["a"], [])], [("swap", ["a"], [])]), [])

    def test_a_clash_anywhere(self):
        row = ["a", "b", "c", "d", "e"]
        others = [("swap", ["a"], ["1"]), ("keep", 1), ("swap", ["c"], ["3"]), ("keep", 1), ("swap", ["e"], ["5"])]
        keeps = [("keep", 1)]
        for place in range(0, 5, 2):
            hand = [("keep", place)] * (place > 0) + [("swap", [row[place]], ["x"])]
            hand += [("keep", 4 - place)] * (place < 4)
            self.assertIsNone(merged(row, hand, others), place)
            self.assertIsNone(merged(row, others, hand), place)
        self.assertIsNone(merged([], [("swap", [], ["x"])], [("swap", [], ["y"])]))
        self.assertIsNone(merged(["a"], [("swap", [], ["x"])] + keeps, [("swap", [], ["y"])] + keeps))

    def test_the_merged_row_is_a_list_of_its_own(self):
        row = ["a", "b"]
        lines = merged(row, [("keep", 2)], [("keep", 2)])
        self.assertEqual(lines, ["a", "b"])
        lines.append("more")
        self.assertEqual(row, ["a", "b"])

    def test_nothing_handed_in_is_changed(self):
        for row, one in some_changes() + large_changes():
            other = mixed_change(row, 31, ["x", "y"], 3)
            self.assertTrue(leaves_alone(merged, row, one, other))
            self.assertTrue(leaves_alone(merged, row, one, one))

    def test_the_arguments_have_their_names(self):
        self.assertEqual(merged(other=[("keep", 1)], one=[("swap", ["a"], ["x"])], row=["a"]), ["x"])


class RefusedTest(JoinTest):
    def test_a_change_that_is_not_told_for_the_row(self):
        fits = [("keep", 1), ("swap", ["b"], ["x"]), ("keep", 1)]
        wrong = [
            [],
            [("keep", 2)],
            [("keep", 4)],
            [("keep", MANY)],
            [("swap", [], ["x"])],
            [("swap", ["a", "b"], [])],
            [("swap", ["a", "b", "c", "d"], [])],
            [("swap", ["a", "b", "d"], [])],
            [("swap", ["b"], []), ("keep", 2)],
            [("keep", 1), ("swap", ["c"], ["x"]), ("keep", 1)],
            [("keep", 1), ("swap", ["b"], ["x"]), ("keep", 2)],
            [("keep", 1), ("swap", ["b"], ["x"])],
            [("keep", 2), ("swap", ["b"], ["x"])],
            [("keep", 2), ("swap", [""], ["x"])],
            [("keep", 3), ("swap", ["c"], ["x"])],
            [("keep", 4), ("swap", [], ["x"])],
        ]
        for change in wrong:
            self.refused(ROW, change, fits)
            self.refused(ROW, fits, change)
            self.refused(ROW, change, change)

    def test_a_row_without_lines(self):
        self.refused([], [("keep", 1)], [])
        self.refused([], [], [("keep", 1)])
        self.refused([], [], [("swap", ["a"], [])])
        self.refused([], [("swap", [""], [])], [])

    def test_a_change_for_a_row_with_a_line_more_or_less(self):
        for row, change in some_changes() + large_changes():
            longer = row + ["more"]
            self.refused(longer, change, [("keep", len(longer))])
            self.refused(longer, [("keep", len(longer))], change)
            if row:
                shorter = row[:-1]
                keeps = [("keep", len(shorter))] if shorter else []
                self.refused(shorter, change, keeps)
                self.refused(shorter, keeps, change)

    def test_refused_though_the_hands_would_clash(self):
        self.refused(ROW, [("swap", ["a"], ["x"]), ("keep", 2)], [("swap", ["a"], ["y"]), ("keep", 1)])
        self.refused(ROW, [("swap", ["a"], ["x"]), ("keep", 1)], [("swap", ["a"], ["y"]), ("keep", 2)])

    def test_nothing_handed_in_is_changed_by_a_refusal(self):
        one = [("keep", 1), ("swap", ["b"], ["x"]), ("keep", 1)]
        other = [("keep", 1), ("swap", ["b"], ["x"]), ("keep", 2)]
        row = list(ROW)
        before = copy.deepcopy((row, one, other))
        self.refused(row, one, other)
        self.refused(row, other, one)
        self.assertEqual((row, one, other), before)


if __name__ == "__main__":
    unittest.main()
