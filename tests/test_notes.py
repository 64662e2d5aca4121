import itertools
import re
import time
import unittest

from helper import (SECONDS, SIGNS, all_changes, all_rows, is_change, is_lines, large_changes, leaves_alone,
                    some_changes)
from rowmend.errors import MendError, NoChange
from rowmend.notes import read, shown

# The widest numbers of the document, and some that are somewhat wider.
WIDE = [10 ** 69, 10 ** 70 - 1, int("1234567890" * 7), 10 ** 70, 10 ** 80 + 1]

NO_SIGN = ["", " ", "a", "1", "a=1", "a-", "a+", " =1", " -a", " +a", "0", "*a", "~", "_", "<a", ">a"]
NO_NUMBER = ["=", "=0", "=01", "=-1", "= 1", "=00", "=+1", "=1 ", "=1a", "=a", "=a1", "=1.0", "=1 0", "=1_0", "=1,0",
             "==", "==1", "=1=", "=-", "=+", "=0x1", "=1e1", "=-0", "=~", "= ", "=0" + "1" * 70, "=" + "0" * 70,
             "=" + "1" * 69 + " ", "=" + "1" * 35 + "-" + "1" * 34]


def is_written(notes):
    """Whether some change is written as these notes."""
    if not all(re.fullmatch("=[1-9][0-9]*|[-+].*", note) for note in notes):
        return False
    signs = "".join(note[0] for note in notes)
    return "==" not in signs and "+-" not in signs


def small_changes():
    """Every change of a row of up to two lines, with what it puts, some of it empty lines."""
    changes = []
    for row in all_rows(["a", ""], 2):
        changes.extend(all_changes(row, [[], [""], ["b", "=1"]]))
    return changes


class ShownTest(unittest.TestCase):
    def test_the_example_of_the_document(self):
        self.assertEqual(shown([("keep", 2), ("swap", ["a"], ["b", ""])]), ["=2", "-a", "+b", "+"])

    def test_a_change_without_blocks(self):
        self.assertEqual(shown([]), [])

    def test_a_keep(self):
        self.assertEqual(shown([("keep", 1)]), ["=1"])
        self.assertEqual(shown([("keep", 10)]), ["=10"])
        self.assertEqual(shown([("keep", 400)]), ["=400"])

    def test_a_keep_of_very_many_lines(self):
        for number in WIDE:
            self.assertEqual(shown([("keep", number)]), ["=" + str(number)])
        self.assertEqual(shown([("keep", 10 ** 70 - 1)]), ["=" + "9" * 70])
        self.assertEqual(shown([("keep", 10 ** 69), ("swap", ["a"], []), ("keep", 1)]), ["=1" + "0" * 69, "-a", "=1"])

    def test_what_is_cut_comes_ahead_of_what_is_put(self):
        self.assertEqual(shown([("swap", ["a", "b"], ["c", "d"])]), ["-a", "-b", "+c", "+d"])
        self.assertEqual(shown([("swap", ["b", "a"], [])]), ["-b", "-a"])
        self.assertEqual(shown([("swap", [], ["d", "c"])]), ["+d", "+c"])
        self.assertEqual(shown([("swap", ["a"], ["a"])]), ["-a", "+a"])

    def test_lines_that_are_empty(self):
        self.assertEqual(shown([("swap", [""], [""])]), ["-", "+"])
        self.assertEqual(shown([("swap", ["", ""], []), ("keep", 1), ("swap", [], ["", "a", ""])]),
                         ["-", "-", "=1", "+", "+a", "+"])

    def test_lines_that_begin_with_a_sign(self):
        self.assertEqual(shown([("swap", ["-a", "+b", "=1", "-", "+", "="], ["=", "+", "-", "=0", "+c", "-d"])]),
                         ["--a", "-+b", "-=1", "--", "-+", "-=", "+=", "++", "+-", "+=0", "++c", "+-d"])

    def test_lines_of_all_signs(self):
        for sign in SIGNS:
            self.assertEqual(shown([("swap", [sign, sign + " "], [" " + sign])]),
                             ["-" + sign, "-" + sign + " ", "+ " + sign])

    def test_several_blocks(self):
        self.assertEqual(shown([("swap", ["a"], []), ("keep", 12), ("swap", [], ["b"]), ("keep", 3)]),
                         ["-a", "=12", "+b", "=3"])

    def test_nothing_handed_in_is_changed(self):
        for row, change in some_changes() + large_changes():
            self.assertTrue(leaves_alone(shown, change))

    def test_the_argument_has_its_name(self):
        self.assertEqual(shown(change=[("keep", 1)]), ["=1"])


class ReadTest(unittest.TestCase):
    def refused(self, notes):
        with self.assertRaises(NoChange, msg=notes):
            read(notes)
        with self.assertRaises(MendError):
            read(notes)

    def refused_anywhere(self, wrong):
        """The wrong notes alone, and at the beginning, in the middle and at the end of such as are right."""
        self.refused(wrong)
        for right in (["-a"], ["+b"], ["=3"], ["=1", "-a", "+b"], ["-a", "=2"], ["-", "+"]):
            self.refused(wrong + right)
            self.refused(right + wrong)
            self.refused(right + wrong + right)

    def check(self, change):
        notes = shown(change)
        self.assertTrue(is_lines(notes))
        self.assertTrue(is_written(notes), notes)
        self.assertEqual(read(notes), change)

    def test_the_example_of_the_document(self):
        self.assertEqual(read(["=2", "-a", "+b", "+"]), [("keep", 2), ("swap", ["a"], ["b", ""])])

    def test_no_notes(self):
        self.assertEqual(read([]), [])

    def test_notes_that_were_written(self):
        for row, change in some_changes():
            self.check(change)
        for change in small_changes():
            self.check(change)

    def test_a_keep_of_very_many_lines(self):
        for number in WIDE:
            self.check([("keep", number)])
            self.check([("swap", ["a"], ["b"]), ("keep", number), ("swap", [], [""]), ("keep", number)])

    def test_numbers_of_every_width(self):
        for width in range(1, 76):
            for first in "123456789":
                number = first + ("0123456789" * 8)[:width - 1]
                self.assertEqual(read(["=" + number]), [("keep", int(number))])
                self.assertEqual(shown(read(["=" + number])), ["=" + number])

    def test_lines_that_are_empty_or_begin_with_a_sign(self):
        for ahead, behind in itertools.product(["", "-", "+", "=", "=1", "-a", "+a", "==", " "], repeat=2):
            self.check([("swap", [ahead, behind], [behind, ahead])])
            self.check([("keep", 1), ("swap", [ahead], []), ("keep", 2), ("swap", [], [behind])])

    def test_lines_of_all_signs(self):
        for sign in SIGNS:
            self.check([("swap", [sign], ["a" + sign, sign + sign])])
        self.check([("swap", ["".join(SIGNS)], ["".join(SIGNS[::-1])])])

    def test_a_note_with_none_of_the_three_signs(self):
        for note in NO_SIGN:
            self.refused_anywhere([note])
        for sign in SIGNS:
            if sign not in "=-+":
                self.refused_anywhere([sign])
                self.refused_anywhere([sign + "1"])

    def test_no_number_behind_the_sign(self):
        for note in NO_NUMBER:
            self.refused_anywhere([note])

    def test_one_sign_that_is_no_figure_within_a_number(self):
        for sign in SIGNS:
            if sign not in "0123456789":
                for note in ("=" + sign, "=" + sign + "1", "=1" + sign, "=1" + sign + "1"):
                    self.refused([note])

    def test_two_keeps_one_behind_the_other(self):
        for pair in (["=1", "=1"], ["=1", "=2"], ["=" + "9" * 70, "=1"], ["=1", "=2", "=3"]):
            self.refused_anywhere(pair)

    def test_a_cut_straight_behind_a_put(self):
        for pair in (["+a", "-b"], ["+a", "-a"], ["+", "-"], ["++", "--"], ["+-", "-+"], ["-a", "+b", "-c", "+d"]):
            self.refused_anywhere(pair)

    def test_what_looks_like_it_but_is_right(self):
        self.assertEqual(read(["+a", "=1", "-b"]), [("swap", [], ["a"]), ("keep", 1), ("swap", ["b"], [])])
        self.assertEqual(read(["=1", "-=1", "=1"]), [("keep", 1), ("swap", ["=1"], []), ("keep", 1)])
        self.assertEqual(read(["=1", "+", "=1"]), [("keep", 1), ("swap", [], [""]), ("keep", 1)])
        self.assertEqual(read(["--", "-+", "++", "+-"]), [("swap", ["-", "+"], ["+", "-"])])
        self.assertEqual(read(["-+a", "--b"]), [("swap", ["+a", "-b"], [])])
        self.assertEqual(read(["-=0"]), [("swap", ["=0"], [])])

    def test_every_few_notes(self):
        notes = ["=1", "=20", "-a", "+a", "-", "+", "=", "=0", "", "a"]
        for length in range(5):
            for few in itertools.product(notes, repeat=length):
                few = list(few)
                if is_written(few):
                    change = read(few)
                    self.assertTrue(is_change(change), (few, change))
                    self.assertEqual(shown(change), few)
                else:
                    self.refused(few)

    def test_large_changes_in_time(self):
        for row, change in large_changes():
            start = time.monotonic()
            self.check(change)
            self.assertLess(time.monotonic() - start, SECONDS)

    def test_nothing_handed_in_is_changed(self):
        for row, change in some_changes() + large_changes():
            self.assertTrue(leaves_alone(read, shown(change)))

    def test_nothing_handed_in_is_changed_by_a_refusal(self):
        notes = ["=1", "-a", "+b", "-c", "=0", ""]
        self.refused(notes)
        self.assertEqual(notes, ["=1", "-a", "+b", "-c", "=0", ""])

    def test_the_lists_of_a_change_are_its_own(self):
        change = read(["-a", "=1", "+b"])
        change[0][1].append("more")
        self.assertEqual(change, [("swap", ["a", "more"], []), ("keep", 1), ("swap", [], ["b"])])
        self.assertEqual(change[0][2], [])

    def test_the_argument_has_its_name(self):
        self.assertEqual(read(notes=["=1"]), [("keep", 1)])


if __name__ == "__main__":
    unittest.main()
