"""[87] and clearfloor/errors.py in the interface."""

import unittest

from clearfloor.errors import (
    ClearfloorError,
    LimitError,
    LineError,
    MapError,
    MoveError,
    PowerCut,
    RefusedError,
    ShutError,
)

OTHERS = [MapError, LineError, RefusedError, LimitError, PowerCut, ShutError, MoveError]


def one_of_each():
    return [
        MapError(1, 2, "map is empty"),
        LineError(3),
        RefusedError("same station"),
        LimitError("journal is full"),
        PowerCut(4),
        ShutError(),
        MoveError(5),
    ]


class ErrorsTest(unittest.TestCase):
    def test_each_is_a_clearfloor_error_and_a_value_error(self):
        for error in one_of_each():
            self.assertIsInstance(error, ClearfloorError)
            self.assertIsInstance(error, ValueError)
        self.assertTrue(issubclass(ClearfloorError, ValueError))

    def test_none_is_an_instance_of_another_one(self):
        for error, own in zip(one_of_each(), OTHERS):
            kinds = [kind for kind in OTHERS if isinstance(error, kind)]
            self.assertEqual(kinds, [own])

    def test_the_base_is_none_of_the_others(self):
        self.assertFalse(issubclass(ClearfloorError, tuple(OTHERS)))

    def test_map_error_has_line_column_and_problem(self):
        error = MapError(7, 12, "door is missing")
        self.assertEqual((error.line, error.column, error.problem), (7, 12, "door is missing"))
        error = MapError(problem="x", column=1, line=2)
        self.assertEqual((error.line, error.column, error.problem), (2, 1, "x"))

    def test_line_error_has_a_line(self):
        self.assertEqual(LineError(9).line, 9)
        self.assertEqual(LineError(line=8).line, 8)

    def test_refused_error_has_a_reason_and_a_line(self):
        error = RefusedError("no such robot", 6)
        self.assertEqual((error.reason, error.line), ("no such robot", 6))
        error = RefusedError("no such robot", line=6)
        self.assertEqual((error.reason, error.line), ("no such robot", 6))

    def test_refused_error_has_line_0_if_none_is_given(self):
        error = RefusedError("robot is broken")
        self.assertEqual((error.reason, error.line), ("robot is broken", 0))

    def test_limit_error_has_a_reason(self):
        self.assertEqual(LimitError("too many orders").reason, "too many orders")

    def test_power_cut_has_written(self):
        self.assertEqual(PowerCut(0).written, 0)
        self.assertEqual(PowerCut(written=31).written, 31)

    def test_shut_error_needs_nothing(self):
        with self.assertRaises(ShutError):
            raise ShutError()

    def test_move_error_has_an_index(self):
        self.assertEqual(MoveError(0).index, 0)
        self.assertEqual(MoveError(index=2).index, 2)

    def test_errors_can_be_shown(self):
        for error in one_of_each():
            self.assertIsInstance(str(error), str)
