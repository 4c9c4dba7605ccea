import inspect
import unittest

from slideboxes import errors
from slideboxes.cheapest import cheapest, least_round
from slideboxes.judging import judged
from slideboxes.machine import Machine, slid
from slideboxes.making import made, unmade
from slideboxes.moves import by_plan, moved
from slideboxes.notes import read, written
from slideboxes.plain import run, traced

WITH_ROWS = ("BadProgram", "BadCode")
WITH_AT = ("BadHands", "BadOrder", "BadTrace", "BadPlan", "BadLog")
WITH_NOTHING = ("BadRound", "BadRule", "BadCost", "NoHand", "NotMade", "NoRound", "Long")
ALL = WITH_ROWS + WITH_AT + WITH_NOTHING + ("BadText",)


class Errors(unittest.TestCase):
    def test_each_is_a_slide_error_and_none_of_the_others(self):
        for name in ALL:
            error = getattr(errors, name)
            self.assertEqual(error.__mro__[:3], (error, errors.SlideError, ValueError), name)

    def test_slide_error_is_a_value_error(self):
        self.assertEqual(errors.SlideError.__bases__, (ValueError,))

    def test_values_are_set(self):
        for name in WITH_ROWS:
            refused = getattr(errors, name)(3, -1)
            self.assertEqual((refused.function, refused.row), (3, -1))
            self.assertTrue(str(refused))
        for name in WITH_AT:
            self.assertEqual(getattr(errors, name)(7).at, 7)
        self.assertEqual(errors.BadText(5).row, 5)

    def test_arguments_of_the_interface(self):
        for asked, names in (
            (run, ["program", "hands", "order"]),
            (traced, ["program", "hands", "order"]),
            (made, ["program"]),
            (unmade, ["code"]),
            (Machine, ["code", "hands", "many", "rule"]),
            (slid, ["code", "hands", "order", "many", "rule"]),
            (moved, ["trace", "many", "rule"]),
            (by_plan, ["trace", "many", "plan"]),
            (cheapest, ["trace", "many", "cost"]),
            (least_round, ["trace", "most"]),
            (judged, ["trace", "many", "log"]),
            (written, ["program"]),
            (read, ["text"]),
        ):
            self.assertEqual(list(inspect.signature(asked).parameters), names)

    def test_methods_stand_in_the_class_itself(self):
        for name in ("pick", "told", "boxes", "log", "counts", "inside"):
            self.assertIn(name, vars(Machine))
