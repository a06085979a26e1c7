import unittest

from yardsort import errors

WITH_MESSAGE = ("NotRow", "NotCode", "NotPattern", "BadNumber", "TooLarge", "Unbounded", "NotSituation", "NotKnown",
                "NotMachine", "NotWord", "NoRow", "NoWord", "OtherLetters", "NotPolynomial", "NotFraction", "NotTree",
                "OpenTrial")
WITH_PLACE = ("NotYard", "BadMove", "Malformed")


class ErrorsTest(unittest.TestCase):
    def test_base_class(self):
        self.assertEqual(errors.YardsortError.__bases__, (ValueError,))

    def test_every_other_class_is_directly_below_the_base_class(self):
        for name in WITH_MESSAGE + WITH_PLACE + ("BadJournal",):
            self.assertEqual(getattr(errors, name).__bases__, (errors.YardsortError,), name)

    def test_message(self):
        for name in WITH_MESSAGE:
            with self.assertRaises(ValueError) as caught:
                raise getattr(errors, name)("words")
            self.assertEqual(str(caught.exception), "words")

    def test_place(self):
        for name in WITH_PLACE:
            for at in (0, 7, 10 ** 30):
                with self.assertRaises(errors.YardsortError) as caught:
                    raise getattr(errors, name)(at)
                self.assertEqual(caught.exception.at, at)

    def test_row_of_a_journal(self):
        with self.assertRaises(errors.YardsortError) as caught:
            raise errors.BadJournal(5)
        self.assertEqual(caught.exception.row, 5)


if __name__ == "__main__":
    unittest.main()
