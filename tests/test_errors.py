"""The interface's list under rotward/errors.py."""

import unittest

from rotward import errors

PLAIN = [
    errors.InvalidArgument,
    errors.PowerOff,
    errors.NotFormatted,
    errors.AlreadyFormatted,
    errors.FilesOpen,
    errors.FilesClosed,
    errors.FilesLost,
    errors.DisksFull,
    errors.DamagedData,
]


class TestErrors(unittest.TestCase):
    def test_the_base_is_a_value_error(self):
        self.assertEqual(errors.RotError.__bases__, (ValueError,))

    def test_all_derive_from_the_base_and_from_no_other(self):
        for error in PLAIN + [errors.Refused]:
            self.assertEqual(error.__bases__, (errors.RotError,), error)

    def test_each_is_raised_and_caught_by_its_own_name_only(self):
        for error in PLAIN:
            with self.assertRaises(error) as caught:
                raise error("why")
            for other in PLAIN + [errors.Refused]:
                self.assertEqual(isinstance(caught.exception, other), other == error)

    def test_refused_has_an_index_and_a_problem(self):
        refused = errors.Refused(3, ("exists", ("a", "b")))
        self.assertEqual(refused.index, 3)
        self.assertEqual(refused.problem, ("exists", ("a", "b")))

    def test_refused_takes_its_arguments_by_name(self):
        refused = errors.Refused(problem=("root",), index=0)
        self.assertEqual((refused.index, refused.problem), (0, ("root",)))

    def test_refused_keeps_them_when_it_is_raised(self):
        with self.assertRaises(errors.RotError) as caught:
            raise errors.Refused(0, ("no room",))
        self.assertEqual((caught.exception.index, caught.exception.problem), (0, ("no room",)))
        self.assertIsInstance(caught.exception, errors.Refused)
