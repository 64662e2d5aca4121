import unittest

from rowmend.errors import MendError, NoChange, NoFit


class ErrorsTest(unittest.TestCase):
    def test_every_refusal_is_a_mend_error(self):
        self.assertEqual(MendError.__bases__, (ValueError,))
        self.assertEqual(NoFit.__bases__, (MendError,))
        self.assertEqual(NoChange.__bases__, (MendError,))

    def test_the_two_refusals_are_told_apart(self):
        self.assertFalse(issubclass(NoFit, NoChange))
        self.assertFalse(issubclass(NoChange, NoFit))

    def test_a_refusal_is_taken_by_each_class_above_it(self):
        for refusal in (MendError, NoFit, NoChange):
            for above in (refusal, MendError, ValueError):
                with self.assertRaises(above):
                    raise refusal("some words")

    def test_the_words_are_carried(self):
        for refusal in (MendError, NoFit, NoChange):
            self.assertEqual(str(refusal("some words")), "some words")


if __name__ == "__main__":
    unittest.main()
