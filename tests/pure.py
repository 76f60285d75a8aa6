"""A test case that asks every answer twice and sees that nothing handed in was changed or given back."""

import unittest


class PureCase(unittest.TestCase):
    def answer(self, function, *arguments):
        before = repr(arguments)
        first = function(*arguments)
        self.assertEqual(repr(arguments), before, "what was handed in was changed")
        for argument in arguments:
            if isinstance(argument, list):
                self.assertIsNot(first, argument, "what was handed in was given back")
        if isinstance(first, list):
            told = repr(first)
            first.append("spoiled")
            self.assertEqual(repr(arguments), before, "the answer hangs on what was handed in")
            first.pop()
            self.assertEqual(repr(function(*arguments)), told)
        else:
            self.assertEqual(repr(function(*arguments)), repr(first))
        return first

    def refused(self, error, function, *arguments):
        before = repr(arguments)
        with self.assertRaises(error) as caught:
            function(*arguments)
        self.assertEqual(repr(arguments), before, "what was handed in was changed")
        return caught.exception
