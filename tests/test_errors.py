import unittest

from pickboard.errors import BadRow, BoardError, NoJob, NotStocked, Short, TooMany

PLAIN = [NotStocked, TooMany, NoJob]
WITH_FIELD = [Short, BadRow]


class ErrorsTest(unittest.TestCase):
    def test_board_error_stands_under_value_error(self):
        self.assertEqual(BoardError.__bases__, (ValueError,))

    def test_each_class_stands_straight_under_board_error(self):
        for kind in PLAIN + WITH_FIELD:
            self.assertEqual(kind.__bases__, (BoardError,), kind)

    def test_none_stands_under_another(self):
        for one in PLAIN + WITH_FIELD:
            for other in PLAIN + WITH_FIELD:
                self.assertEqual(issubclass(one, other), one is other, (one, other))

    def test_each_is_made_with_words(self):
        for kind in [BoardError] + PLAIN:
            error = kind("some words")
            self.assertIsInstance(error, BoardError)
            self.assertEqual(str(error), "some words")

    def test_short_has_its_kind(self):
        error = Short("too few", "chip")
        self.assertEqual(error.kind, "chip")
        self.assertEqual(Short("chip", "coil").kind, "coil")
        self.assertEqual(str(error), "too few")

    def test_bad_row_has_its_row(self):
        error = BadRow("badly written", 7)
        self.assertEqual(error.row, 7)
        self.assertEqual(BadRow("badly written", 0).row, 0)
        self.assertEqual(str(error), "badly written")

    def test_fields_are_those_of_each_object(self):
        one, other = Short("a", "chip"), Short("b", "coil")
        self.assertEqual((one.kind, other.kind), ("chip", "coil"))
        one, other = BadRow("a", 1), BadRow("b", 2)
        self.assertEqual((one.row, other.row), (1, 2))

    def test_each_can_be_raised_and_taken_as_a_value_error(self):
        made = [BoardError("w"), NotStocked("w"), TooMany("w"), Short("w", "chip"), BadRow("w", 3), NoJob("w")]
        for error in made:
            with self.assertRaises(ValueError) as caught:
                raise error
            self.assertIs(caught.exception, error)


if __name__ == "__main__":
    unittest.main()
