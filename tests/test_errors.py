"""[4] and [11]: which error is under which, and what each keeps."""

import inspect
import unittest

from hownarrow import errors
from hownarrow.errors import CueError, NoCommand, NoShot, NoTable, NoText, Nothing, TooMany, Wrong
from tests.plain import odd_values

KEEPING = ((Wrong, ("place",)), (NoText, ("line", "column")), (NoTable, ("fault",)), (TooMany, ("most",)),
           (NoCommand, ("line",)), (NoShot, ()), (Nothing, ()))


class TestErrors(unittest.TestCase):
    def test_which_is_under_which(self):
        self.assertEqual(CueError.__bases__, (ValueError,))
        for kind, _ in KEEPING:
            self.assertEqual(kind.__bases__, (CueError,))

    def test_there_are_no_others(self):
        told = {thing for _, thing in inspect.getmembers(errors, inspect.isclass)}
        self.assertEqual(told, {CueError} | {kind for kind, _ in KEEPING})

    def test_they_keep_the_very_objects(self):
        for kind, names in KEEPING:
            for thing in odd_values() + [{"a": [1]}, [1, [2]], 10 ** 5000]:
                others = [object() for _ in names]
                for at, name in enumerate(names):
                    given = others[:at] + [thing] + others[at + 1:]
                    error = kind(*given)
                    self.assertIs(getattr(error, name), thing)
                    self.assertEqual([getattr(error, one) for one in names], given)
                    self.assertEqual(set(vars(error)), set(names))

    def test_their_parameters_have_these_names(self):
        for kind, names in KEEPING:
            if names:
                self.assertEqual(list(inspect.signature(kind.__init__).parameters), ["self", *names])

    def test_they_are_raised_and_caught(self):
        for kind, names in KEEPING:
            with self.assertRaises(CueError):
                raise kind(*names)

    def test_they_change_nothing_of_what_they_keep(self):
        kept = [1, [2]]
        error = Wrong(kept)
        kept.append(3)
        self.assertEqual(error.place, [1, [2], 3])


if __name__ == "__main__":
    unittest.main()
