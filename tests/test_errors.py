"""The interface: palmhall/errors.py."""

import unittest

from palmhall import errors

NAMES = (
    "Unlike NoSign NotSeen TooMany NoMember NoOffer Own NoBargain NotTheirs Twice NoQuarrel "
    "NoWay BadNumber Closed NothingLeft NoText NoRow"
).split()


class Errors(unittest.TestCase):
    def test_hall_error_stands_straight_under_value_error(self):
        self.assertEqual(errors.HallError.__bases__, (ValueError,))

    def test_there_are_seventeen_each_straight_under_hall_error(self):
        self.assertEqual(len(set(NAMES)), 17)
        for name in NAMES:
            with self.subTest(name):
                self.assertEqual(getattr(errors, name).__bases__, (errors.HallError,))

    def test_none_stands_under_another_one(self):
        kinds = [getattr(errors, name) for name in NAMES]
        for one in kinds:
            above = [other for other in kinds if issubclass(one, other)]
            self.assertEqual(above, [one])

    def test_each_is_made_of_a_text_and_caught_as_hall_error(self):
        for name in NAMES + ["HallError"]:
            with self.subTest(name):
                kind = getattr(errors, name)
                with self.assertRaises(errors.HallError) as caught:
                    raise kind("some text")
                self.assertIs(type(caught.exception), kind)
                self.assertEqual(str(caught.exception), "some text")


if __name__ == "__main__":
    unittest.main()
