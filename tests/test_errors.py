"""The errors: the family, the arguments, the fields."""

import copy
import unittest

from metnumbers import errors

WITH_MESSAGE = [
    errors.NoParty, errors.NoPair, errors.NoFit, errors.NoBar, errors.NoFact,
    errors.NoName, errors.NoMark, errors.Mismatch, errors.InvalidCommand,
]
BAR = ((0, 2), (1,))


def one_of_each():
    """Return an error of each class but MeetError, each with right arguments."""
    with_fields = [errors.TooMany(6), errors.SyntaxProblem(1, 9), errors.NoMeeting(BAR)]
    return with_fields + [made("a message") for made in WITH_MESSAGE]


class ErrorsTest(unittest.TestCase):
    def test_there_are_thirteen(self):
        self.assertEqual(len({type(error) for error in one_of_each()} | {errors.MeetError}), 13)
        listed = [name for name in vars(errors) if not name.startswith("_")]
        self.assertEqual(len(listed), 13)

    def test_too_many_has_its_limit(self):
        self.assertEqual(errors.TooMany(7).limit, 7)
        self.assertEqual(errors.TooMany(12).limit, 12)

    def test_syntax_problem_has_line_and_column(self):
        problem = errors.SyntaxProblem(1, 9)
        self.assertEqual((problem.line, problem.column), (1, 9))

    def test_no_meeting_has_its_bar(self):
        self.assertEqual(errors.NoMeeting(BAR).bar, BAR)
        self.assertEqual(errors.NoMeeting(((), ())).bar, ((), ()))

    def test_others_have_their_message(self):
        for made in WITH_MESSAGE:
            with self.subTest(made=made.__name__):
                self.assertEqual(str(made("a message")), "a message")

    def test_meet_error_is_directly_a_value_error(self):
        self.assertEqual(errors.MeetError.__bases__, (ValueError,))
        self.assertIsInstance(errors.MeetError("a message"), ValueError)

    def test_each_stands_directly_under_meet_error(self):
        for error in one_of_each():
            with self.subTest(error=repr(error)):
                self.assertEqual(type(error).__bases__, (errors.MeetError,))
                self.assertIsInstance(error, errors.MeetError)
                self.assertIsInstance(error, ValueError)

    def test_none_is_another_one(self):
        for error in one_of_each():
            for other in one_of_each():
                if type(error) is not type(other):
                    with self.subTest(error=repr(error), other=repr(other)):
                        self.assertNotIsInstance(error, type(other))

    def test_each_can_be_raised_and_copied(self):
        for error in one_of_each():
            with self.subTest(error=repr(error)):
                with self.assertRaises(type(error)):
                    raise error
                self.assertEqual(vars(copy.copy(error)), vars(error))


if __name__ == "__main__":
    unittest.main()
