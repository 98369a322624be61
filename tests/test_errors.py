"""[1.1], [1.2]: the errors."""

from wholerises import errors
from tests.support import KEPT, NO_INTEGERS, Case

PLAIN = ("InvalidRow", "InvalidRising", "InvalidForms", "InvalidPolynomial", "InvalidTable", "InvalidRatio",
         "InvalidSeries", "InvalidEquation", "InvalidPromise", "InvalidOperation", "ParseError")
FOREIGN = {"InvalidNumber": IndexError, "UnknownName": KeyError, "TooMany": OverflowError,
           "Refused": ArithmeticError, "NothingToUndo": LookupError}


class Errors(Case):

    def test_row_error(self):
        self.assertEqual(errors.RowError.__bases__, (ValueError,))

    def test_errors_of_the_package(self):
        for name in PLAIN:
            self.assertEqual(getattr(errors, name).__bases__, (errors.RowError,), name)

    def test_errors_of_other_bases(self):
        for name, base in FOREIGN.items():
            self.assertEqual(getattr(errors, name).__bases__, (base,), name)

    def test_there_are_seventeen(self):
        found = [name for name, value in vars(errors).items() if isinstance(value, type)]
        self.assertEqual(sorted(found), sorted(PLAIN + tuple(FOREIGN) + ("RowError",)))

    def test_a_message_is_taken(self):
        for name in ("RowError",) + PLAIN[:-1]:
            kind = getattr(errors, name)
            with self.assertRaises(errors.RowError) as caught:
                raise kind("a message")
            self.assertIs(type(caught.exception), kind)

    def test_what_is_kept(self):
        for name, attribute in KEPT.items():
            for value in NO_INTEGERS + (1, 0, ("deed", 1, "great"), 10 ** 5000, {(1, 2): [3, {4: 5}]}, object()):
                error = getattr(errors, name)(value)
                self.assertEqual(getattr(error, attribute), value, name)
                self.assertIs(type(getattr(error, attribute)), type(value), name)

    def test_a_text_of_an_error_can_be_asked_for(self):
        for name in KEPT:
            self.assertIsInstance(str(getattr(errors, name)(10 ** 5000)), str)

    def test_no_state_is_shared(self):
        for name, attribute in KEPT.items():
            given = [1, {2: [3]}, ([4],)]
            error = getattr(errors, name)(given)
            given[1][2].append(5)
            given[2][0].append(6)
            given.append(7)
            self.assertEqual(getattr(error, attribute), [1, {2: [3]}, ([4],)], name)
