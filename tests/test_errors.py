import unittest

from heappacts import errors
from heappacts.errors import HeappactsError, ProgramFault, TextFault, TooMany
from helpers import Case


class Errors(Case):
    def test_family(self):
        self.assertTrue(issubclass(HeappactsError, ValueError))
        for error in (TextFault, ProgramFault, TooMany):
            self.assertTrue(issubclass(error, HeappactsError))
            self.assertIsNot(error, HeappactsError)

    def test_none_of_the_three_is_below_another(self):
        three = (TextFault, ProgramFault, TooMany)
        for error in three:
            for other in three:
                self.assertEqual(issubclass(error, other), error is other)

    def test_defined_in_their_file(self):
        for error in (HeappactsError, TextFault, ProgramFault, TooMany):
            self.assertEqual(error.__module__, errors.__name__)

    def test_fields(self):
        fault = TextFault(3, 4, "name too long")
        self.exact((fault.line, fault.column, fault.reason), (3, 4, "name too long"))
        fault = ProgramFault("f", 5, "too deep")
        self.exact((fault.procedure, fault.place, fault.reason), ("f", 5, "too deep"))
        fault = ProgramFault("f", None, "too many parameters")
        self.exact((fault.procedure, fault.place, fault.reason), ("f", None, "too many parameters"))

    def test_too_many_takes_nothing(self):
        self.assertIsInstance(TooMany(), HeappactsError)
        with self.assertRaises(TypeError):
            TooMany(1)

    def test_caught_as_value_error(self):
        for error in (TextFault(1, 1, "x"), ProgramFault("f", 0, "x"), TooMany()):
            with self.assertRaises(ValueError):
                raise error
            self.assertIsInstance(str(error), str)


if __name__ == "__main__":
    unittest.main()
