"""The error classes of the interface, and point 0.2 for what they keep."""

import unittest

from namelessly import errors
from namelessly.webs import Web, within
from tests.support import Checks, containers, odd_values

PLAIN = ["TooMany", "BadDeed", "NothingDone"]
WITH_ONE = {
    "BadName": "name", "TwiceTold": "name", "BadTie": "number", "BadTree": "line", "BadSaying": "line",
    "BadMachine": "number", "BadNumber": "number", "Clash": "spots", "BadText": "place",
}
MISSING = {"UnknownName": "name", "NoMoment": "number"}


class ErrorsTest(Checks, unittest.TestCase):

    def test_which_stands_beneath_which(self):
        self.assertEqual(errors.NamelessError.__bases__, (ValueError,))
        self.assertEqual(errors.NameMissing.__bases__, (LookupError,))
        for name in PLAIN + list(WITH_ONE):
            self.assertEqual(getattr(errors, name).__bases__, (errors.NamelessError,), name)
        for name in MISSING:
            self.assertEqual(getattr(errors, name).__bases__, (errors.NameMissing,), name)

    def test_plain_ones_take_nothing(self):
        for name in PLAIN:
            error = getattr(errors, name)()
            self.assertEqual(vars(error), {}, name)
            self.assertEqual(error.args, (), name)

    def test_arguments_are_attributes_of_their_names(self):
        for name, attribute in {**WITH_ONE, **MISSING}.items():
            for value in odd_values() + [("a", "b"), 3]:
                by_place = getattr(errors, name)(value)
                by_name = getattr(errors, name)(**{attribute: value})
                self.assertEqual(list(vars(by_place)), [attribute], name)
                self.same(getattr(by_place, attribute), value)
                self.same(getattr(by_name, attribute), value)

    def test_no_list_or_dict_is_kept(self):
        for name, attribute in {**WITH_ONE, **MISSING}.items():
            value = ["a", {"b": [1, (2, [3])]}, ([4], {"c": {}})]
            error = getattr(errors, name)(value)
            handed = [id(part) for part in containers(value)]
            for part in containers(getattr(error, attribute)) + containers(error.args):
                self.assertNotIn(id(part), handed, name)
            for part in containers(value):
                part.clear()
            self.same(getattr(error, attribute), ["a", {"b": [1, (2, [3])]}, ([4], {"c": {}})])

    def test_a_raised_error_keeps_no_list_of_the_call(self):
        web = Web([("a", "x")], [])
        inner = ["deep"]
        name = ("a", [inner], {"k": inner})
        with self.assertRaises(errors.UnknownName) as caught:
            within(web, [name])
        inner.append("later")
        self.same(caught.exception.name, ("a", [["deep"]], {"k": ["deep"]}))
        self.assertNotIn("later", repr(caught.exception.args))

    def test_a_message_can_be_made_of_any_value(self):
        for name in {**WITH_ONE, **MISSING}:
            for value in odd_values():
                self.assertIsInstance(str(getattr(errors, name)(value)), str)


if __name__ == "__main__":
    unittest.main()
