import unittest

from rankfall.errors import BadBook, BadPayments, BadText, FallError, NoHouse, NoMove

KINDS = [BadBook, NoHouse, BadPayments, NoMove, BadText]


def one_of_each():
    return [BadBook(3, "cash"), NoHouse("8"), BadPayments("too few"), NoMove(4), BadText(5)]


class ErrorsTest(unittest.TestCase):
    def test_any_refusal_is_a_fall_error_and_a_value_error(self):
        self.assertEqual(FallError.__bases__, (ValueError,))
        for error in one_of_each():
            self.assertIsInstance(error, FallError)
            self.assertIsInstance(error, ValueError)

    def test_each_class_stands_straight_under_fall_error(self):
        for kind in KINDS:
            self.assertEqual(kind.__bases__, (FallError,))

    def test_none_of_the_classes_is_another(self):
        for error, kind in zip(one_of_each(), KINDS):
            self.assertEqual([other for other in KINDS if isinstance(error, other)], [kind])

    def test_each_is_defined_in_its_file(self):
        for kind in [FallError] + KINDS:
            self.assertEqual(kind.__module__, "rankfall.errors")

    def test_fields_are_set_when_the_object_is_created(self):
        book = BadBook(3, "cash")
        self.assertEqual((book.at, book.why), (3, "cash"))
        self.assertEqual(NoMove(4).number, 4)
        self.assertEqual(BadText(5).row, 5)

    def test_fields_of_the_first_number(self):
        book = BadBook(0, "houses")
        self.assertEqual((book.at, book.why), (0, "houses"))
        self.assertEqual(NoMove(0).number, 0)
        self.assertEqual(BadText(0).row, 0)

    def test_fields_stand_on_the_object_itself(self):
        one, other = BadBook(1, "cash"), BadBook(2, "rank")
        self.assertEqual(((one.at, one.why), (other.at, other.why)), ((1, "cash"), (2, "rank")))


if __name__ == "__main__":
    unittest.main()
