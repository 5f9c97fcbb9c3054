import unittest

from claimsieve import errors

KINDS_OF_REFUSAL = ("BadProgram", "BadArgs", "BadCount", "BadNumbers", "BadStart", "BadPaper", "NoLack", "BadText")


class ErrorsTest(unittest.TestCase):
    def test_any_refusal_is_a_value_error(self):
        self.assertEqual(errors.ClaimError.__bases__, (ValueError,))

    def test_each_refusal_stands_right_under_any_refusal(self):
        for name in KINDS_OF_REFUSAL:
            with self.subTest(name):
                self.assertEqual(getattr(errors, name).__bases__, (errors.ClaimError,))

    def test_each_is_defined_here(self):
        for name in ("ClaimError", *KINDS_OF_REFUSAL):
            with self.subTest(name):
                self.assertEqual(getattr(errors, name).__module__, "claimsieve.errors")
                self.assertEqual(getattr(errors, name).__name__, name)

    def test_bad_program_tells_function_and_place(self):
        refusal = errors.BadProgram(2, 7)
        self.assertEqual((refusal.function, refusal.place), (2, 7))
        self.assertTrue(str(refusal))

    def test_bad_text_tells_row(self):
        refusal = errors.BadText(3)
        self.assertEqual(refusal.row, 3)
        self.assertTrue(str(refusal))

    def test_the_others_are_made_of_a_text(self):
        for name in ("ClaimError", "BadArgs", "BadCount", "BadNumbers", "BadStart", "BadPaper", "NoLack"):
            with self.subTest(name):
                self.assertEqual(str(getattr(errors, name)("why")), "why")


if __name__ == "__main__":
    unittest.main()
