import unittest

from leafturner import errors

PLAIN = ("NotMachine", "NotWord", "NotString", "NotEndless", "NotList", "NotPortrait", "NotGraph",
         "BadNumber", "TooLarge", "NoAnswer", "OpenTrial")


class Errors(unittest.TestCase):
    def test_the_base_is_a_value_error(self):
        self.assertEqual(errors.LeafError.__bases__, (ValueError,))

    def test_each_class_is_directly_below_the_base(self):
        for name in PLAIN + ("Malformed", "BadJournal"):
            self.assertEqual(getattr(errors, name).__bases__, (errors.LeafError,), name)

    def test_plain_errors_have_a_message(self):
        for name in PLAIN:
            with self.assertRaises(errors.LeafError) as caught:
                raise getattr(errors, name)("why")
            self.assertEqual(str(caught.exception), "why")

    def test_malformed_has_at(self):
        self.assertEqual(errors.Malformed(0).at, 0)
        self.assertEqual(errors.Malformed(17).at, 17)

    def test_bad_journal_has_row(self):
        self.assertEqual(errors.BadJournal(0).row, 0)
        self.assertEqual(errors.BadJournal(5).row, 5)

    def test_numbers_of_any_size(self):
        self.assertEqual(errors.Malformed(10 ** 5000).at, 10 ** 5000)
        self.assertEqual(errors.BadJournal(-10 ** 5000).row, -10 ** 5000)


if __name__ == "__main__":
    unittest.main()
