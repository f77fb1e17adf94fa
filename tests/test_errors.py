import unittest

from inkmap.errors import InkError, NoColours, NoDrawing, NoEnd, NoRing

REFUSALS = (NoDrawing, NoEnd, NoRing, NoColours)


class ErrorClasses(unittest.TestCase):
    def test_any_refusal_is_a_value_error(self):
        self.assertEqual(InkError.__bases__, (ValueError,))

    def test_each_refusal_stands_right_under_the_common_one(self):
        for refusal in REFUSALS:
            self.assertEqual(refusal.__bases__, (InkError,))

    def test_no_refusal_is_taken_for_another(self):
        for refusal in REFUSALS:
            for other in REFUSALS:
                self.assertEqual(issubclass(refusal, other), refusal is other)

    def test_words_are_kept(self):
        for refusal in (InkError,) + REFUSALS:
            self.assertEqual(str(refusal("why")), "why")


if __name__ == "__main__":
    unittest.main()
