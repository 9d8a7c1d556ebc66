"""Promise 5: the errors, and what they are made from."""

import unittest

from returnsdue import errors

NAMES = """BadBill BadBirth BadBirths BadCode BadDeed BadDeeds BadDues BadExpression BadFollowing BadFrame BadGifts
BadGone BadImage BadJournal BadLine BadMany BadMark BadMoment BadMost BadName BadNames BadPass BadPasses BadPath
BadPicture BadPile BadPlan BadProgram BadReturns BadRow BadSession BadTelling BadText BadTold BadTree BadUses BadWidth
BadWord Gone Misfit NoBill NoName NotOver NotTold TooMany Unlike""".split()
FIELDS = {
    "BadDeeds": ("at",), "BadJournal": ("at",), "BadRow": ("at",), "BadText": ("at",), "TooMany": ("most",),
    "Gone": ("word", "birth"),
}


class ErrorsTest(unittest.TestCase):
    def test_all_stand_directly_under_return_error(self):
        self.assertEqual(errors.ReturnError.__bases__, (ValueError,))
        for name in NAMES:
            with self.subTest(name=name):
                self.assertEqual(getattr(errors, name).__bases__, (errors.ReturnError,))

    def test_there_are_no_others(self):
        found = [name for name, value in vars(errors).items() if isinstance(value, type)]
        self.assertEqual(sorted(found), sorted([*NAMES, "ReturnError"]))

    def test_fields(self):
        for name, fields in FIELDS.items():
            for values in ((None, 7), (3, None), ("frame", 0)):
                given = values[:len(fields)]
                with self.subTest(name=name, given=given):
                    error = getattr(errors, name)(*given)
                    self.assertEqual([getattr(error, field) for field in fields], list(given))
                    named = getattr(errors, name)(**dict(zip(fields, given)))
                    self.assertEqual([getattr(named, field) for field in fields], list(given))
            with self.assertRaises(TypeError):
                getattr(errors, name)()

    def test_messages(self):
        for name in NAMES:
            if name not in FIELDS:
                with self.subTest(name=name):
                    self.assertEqual(str(getattr(errors, name)("a message")), "a message")

    def test_they_can_be_caught(self):
        with self.assertRaises(ValueError):
            raise errors.Gone("frame", 3)
        with self.assertRaises(errors.ReturnError):
            raise errors.TooMany(400)


if __name__ == "__main__":
    unittest.main()
