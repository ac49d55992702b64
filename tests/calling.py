"""How functions are called, and what they do with what they are handed, whatever they tell.

Lists for tuples and by names, arguments that stay as they were, the same call twice, lists that the caller changes.
"""

import copy
import inspect

from lastfords.board import Board
from lastfords.talks import Talk
from lastfords.texts import board_text
from tests.helpers import listed


def spoil(value):
    """Changes all lists in the value."""
    if isinstance(value, (list, tuple)):
        for part in value:
            spoil(part)
    if isinstance(value, list):
        value[:] = ["spoiled"]


def plain(value):
    """The value with the texts of Talks and Boards for these, so that its repr tells all of it."""
    if isinstance(value, Talk):
        return ("Talk", value.text)
    if isinstance(value, Board):
        return ("Board", board_text(value))
    if isinstance(value, (list, tuple)):
        return type(value)([plain(part) for part in value])
    return value


class Calls:
    """Tests of a Case: CALLS has of each function the names of its parameters and some arguments.

    MANY tells how many functions there are, LISTS those that tell a list. What is called thing is handed over as it is.
    """

    def calls(self):
        for function, (names, asked) in self.CALLS.items():
            for given in asked:
                yield function, names.split(), given

    def turned(self, names, given):
        """The arguments with lists for tuples, but for what is called thing."""
        return [part if name == "thing" else listed(part) for name, part in zip(names, given)]

    def test_all_functions_of_the_interface_are_called(self):
        self.assertEqual(len(self.CALLS), self.MANY)
        for function, (names, _) in self.CALLS.items():
            self.assertEqual(list(inspect.signature(function).parameters), names.split(), function)

    def test_lists_names_and_twice(self):
        for function, names, given in self.calls():
            expected = repr(plain(function(*given)))
            turned = self.turned(names, given)
            for found in (function(*given), function(*turned), function(**dict(zip(names, given))),
                          function(**dict(zip(names, turned)))):
                self.assertEqual(repr(plain(found)), expected, (function, given))

    def test_arguments_stay_as_they_were(self):
        for function, names, given in self.calls():
            turned = self.turned(names, given)
            kept, before = copy.deepcopy(turned), repr(plain(turned))
            function(*turned)
            self.assertEqual(repr(plain(turned)), before, function)
            self.assertEqual(turned, kept, function)

    def test_answers_belong_to_the_caller(self):
        for function, names, given in self.calls():
            turned = self.turned(names, given)
            found = function(*turned)
            expected = repr(plain(found))
            spoil(found)
            spoil(turned)
            again = function(*given)
            self.assertEqual(repr(plain(again)), expected, function)
            spoil(again)
            self.assertEqual(repr(plain(function(*given))), expected, function)

    def test_answers_have_tuples_but_for_the_lists_that_are_told(self):
        for function, _, given in self.calls():
            found = function(*given)
            self.assertIs(type(found) is list, function in self.LISTS, function)
            inner = list(found) if isinstance(found, (list, tuple)) else []
            self.assertNotIn("[", repr(plain(inner))[1:-1], function)
