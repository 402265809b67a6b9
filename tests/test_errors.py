import inspect
import unittest

from otherhow import errors
from otherhow.errors import BadText, BeenError, NotAllowed, UnknownName

THREE = [BadText, UnknownName, NotAllowed]


class ErrorsTest(unittest.TestCase):
    def test_been_error_is_a_value_error(self):
        self.assertEqual(BeenError.__bases__, (ValueError,))

    def test_the_three_stand_below_been_error(self):
        for error in THREE:
            self.assertEqual(error.__bases__, (BeenError,))

    def test_none_of_the_three_is_a_subclass_of_another(self):
        for one in THREE:
            for other in THREE:
                self.assertEqual(issubclass(one, other), one is other)

    def test_bad_text_has_an_integer_at(self):
        for at in (0, 1, 7):
            error = BadText(at)
            self.assertIs(type(error.at), int)
            self.assertEqual(error.at, at)

    def test_at_is_read_off_a_caught_error(self):
        with self.assertRaises(BeenError) as caught:
            raise BadText(3)
        self.assertEqual(caught.exception.at, 3)

    def test_each_is_caught_by_its_own_name_only(self):
        for made in (BadText(2), UnknownName("no"), NotAllowed("no")):
            for error in THREE:
                self.assertEqual(isinstance(made, error), type(made) is error)

    def test_all_are_caught_as_value_errors(self):
        for made in (BadText(2), UnknownName("no"), NotAllowed("no")):
            with self.assertRaises(ValueError):
                raise made

    def test_classes_are_defined_in_the_file(self):
        for error in [BeenError] + THREE:
            self.assertTrue(inspect.isclass(error))
            self.assertEqual(error.__module__, errors.__name__)


if __name__ == "__main__":
    unittest.main()
