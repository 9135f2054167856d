"""[0.2]: the errors."""

import unittest

from tests.helping import Strict
from waryrig import errors

NAMES = """
    BadRig BadFault BadSetting BadMove BadLot BadBook Twice TooMany NoBar BadWalk BadStart
    BadCode BadProgram TooDeep NotRight BadJournal BadCuts BadNumber BadLies BadLooks Stuck
    Unlike BadGrades NotOrder BadSign NotSeen NoMove Barred BadName BadNamed BadText NoName
    NothingToUndo NothingToRedo NoProgram
""".split()


class Errors(Strict):

    def test_refused_stands_under_value_error(self):
        self.assertEqual(errors.Refused.__bases__, (ValueError,))

    def test_each_other_one_stands_under_refused_alone(self):
        self.assertEqual(len(NAMES), 35)
        for name in NAMES:
            with self.subTest(name):
                self.assertEqual(getattr(errors, name).__bases__, (errors.Refused,))
                self.assertEqual(getattr(errors, name).__module__, "waryrig.errors")
                self.assertEqual(getattr(errors, name).__name__, name)

    def test_there_are_no_others(self):
        classes = [name for name in vars(errors) if isinstance(getattr(errors, name), type)]
        self.assertEqual(sorted(classes), sorted(NAMES + ["Refused"]))

    def test_what_is_kept(self):
        for name in NAMES + ["Refused"]:
            for what in (0, -1, (4, 7), None, True, "word", (0, ((0,), ("end",)))):
                with self.subTest(name=name, what=what):
                    self.same(getattr(errors, name)(what).what, what)
                    self.same(getattr(errors, name)(what=what).what, what)

    def test_each_is_made_from_one_argument(self):
        for name in NAMES + ["Refused"]:
            with self.subTest(name):
                self.assertRaises(TypeError, getattr(errors, name))
                self.assertRaises(TypeError, getattr(errors, name), 1, 2)


if __name__ == "__main__":
    unittest.main()
