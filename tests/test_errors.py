"""Promise 17, the error classes; promise 2, what they keep."""

import inspect
import unittest

from lastfords import errors

UNDER_LOOKUP = {
    "NoIsland": ("name",), "NoRule": ("rule",), "NoFlood": ("name",), "NoNumber": ("number",), "NoState": (),
    "NoStart": ("place",), "NoLook": ("look",), "NoItem": ("place",), "NothingDone": (), "NoTalk": ("name",),
    "NoFrame": ("name",),
}
UNDER_VALUE = {
    "BadText": (), "Twice": ("name",), "OtherIslands": (), "OtherTalk": (), "Stuck": ("lot",), "NoOrder": (),
    "Outside": ("name",), "BadLine": ("number",), "Stopped": ("number", "raised", "value"),
}
EVERY = {**UNDER_LOOKUP, **UNDER_VALUE}


class ErrorsTest(unittest.TestCase):

    def test_the_module_has_just_these_classes(self):
        there = {name for name, thing in vars(errors).items() if inspect.isclass(thing)}
        self.assertEqual(there, set(EVERY))
        for name in EVERY:
            self.assertEqual(getattr(errors, name).__module__, "lastfords.errors")

    def test_the_bases(self):
        for base, classes in ((LookupError, UNDER_LOOKUP), (ValueError, UNDER_VALUE)):
            for name in classes:
                self.assertEqual(getattr(errors, name).__bases__, (base,), name)

    def test_no_class_is_beneath_another(self):
        for one in EVERY:
            for other in EVERY:
                if one != other:
                    self.assertFalse(issubclass(getattr(errors, one), getattr(errors, other)), (one, other))

    def test_values_by_position_and_by_name(self):
        for name, kept in EVERY.items():
            values = {word: f"value {word}" for word in kept}
            error = getattr(errors, name)
            self.assertEqual(vars(error(*values.values())), values)
            self.assertEqual(vars(error(**values)), values)
            self.assertEqual(list(inspect.signature(error.__init__).parameters)[1:],
                             list(kept) or ["args", "kwargs"])

    def test_each_can_be_raised_and_caught(self):
        for name, kept in EVERY.items():
            error = getattr(errors, name)
            with self.assertRaises(error) as caught:
                raise error(*kept)
            self.assertEqual(tuple(getattr(caught.exception, word) for word in kept), kept)

    def test_numbers_and_none_are_kept_as_they_are(self):
        self.assertEqual(errors.NoNumber(-10 ** 41).number, -10 ** 41)
        self.assertEqual(errors.BadLine(0).number, 0)
        stopped = errors.Stopped(2, "OtherIslands", None)
        self.assertEqual((stopped.number, stopped.raised, stopped.value), (2, "OtherIslands", None))

    def test_tuples_are_kept_for_lists(self):
        rule = [[["a", "b"], ("b", "c")], ["a", "c"]]
        self.assertEqual(errors.NoRule(rule).rule, ((("a", "b"), ("b", "c")), ("a", "c")))
        self.assertEqual(errors.NoLook(["f", ["a", "b"]]).look, ("f", ("a", "b")))
        self.assertEqual(errors.Stuck(["p", "q"]).lot, ("p", "q"))
        self.assertEqual(errors.Stopped(0, "Stuck", ["p"]).value, ("p",))
        self.assertEqual(rule, [[["a", "b"], ("b", "c")], ["a", "c"]])


if __name__ == "__main__":
    unittest.main()
