"""Settings (points [1] and [9])."""

import unittest

from sureplace.errors import InvalidSetting
from sureplace.given.settings import Setting
from tests.helpers import LIMIT, a_reading, raised


def made(dims=2, speed=1, drift=1, per=1):
    return raised(Setting, dims, speed=speed, drift=drift, per=per)


class Settings(unittest.TestCase):
    def test_the_fields(self):
        setting = Setting(3, speed=4, drift=5, per=6)
        self.assertEqual((setting.dims, setting.speed, setting.drift, setting.per), (3, 4, 5, 6))
        self.assertEqual(Setting(dims=2, per=1, drift=0, speed=0).dims, 2)

    def test_the_bounds(self):
        for dims, good in ((1, False), (2, True), (3, True), (4, False), (0, False), (-2, False)):
            self.assertIs(made(dims=dims), None if good else InvalidSetting, dims)
        for number, good in ((-1, False), (0, True), (LIMIT, True), (LIMIT + 1, False)):
            self.assertIs(made(speed=number), None if good else InvalidSetting, number)
            self.assertIs(made(drift=number), None if good else InvalidSetting, number)
        for per, good in ((-1, False), (0, False), (1, True), (LIMIT, True), (LIMIT + 1, False)):
            self.assertIs(made(per=per), None if good else InvalidSetting, per)

    def test_the_other_arguments_are_given_by_name(self):
        self.assertIs(raised(Setting, 2, 1, 1, 1), TypeError)

    def test_equality(self):
        setting = Setting(2, speed=4, drift=5, per=6)
        self.assertEqual(setting, Setting(2, speed=4, drift=5, per=6))
        self.assertNotEqual(setting, Setting(3, speed=4, drift=5, per=6))
        self.assertNotEqual(setting, Setting(2, speed=5, drift=5, per=6))
        self.assertNotEqual(setting, Setting(2, speed=4, drift=4, per=6))
        self.assertNotEqual(setting, Setting(2, speed=4, drift=5, per=7))
        for other in (2, "a", None, (2, 4, 5, 6), [setting], a_reading()):
            self.assertIs(setting == other, False)
            self.assertIs(setting != other, True)


if __name__ == "__main__":
    unittest.main()
