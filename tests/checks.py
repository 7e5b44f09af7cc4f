"""What several tests check in the same way."""

import copy
import unittest

from samples import as_lists

from wholeflow.errors import BadValue


class Checks(unittest.TestCase):

    def refused(self, at, function, *arguments):
        """The call raises BadValue with this position, and leaves its arguments as they were."""
        before = copy.deepcopy(arguments)
        with self.assertRaises(BadValue) as caught:
            function(*arguments)
        self.assertEqual(caught.exception.at, at, (function, arguments))
        self.assertEqual(arguments, before)

    def unchanged(self, function, *arguments):
        """The call answers the same for lists in the place of tuples, and does not change these."""
        told = function(*arguments)
        lists = as_lists(list(arguments))
        before = copy.deepcopy(lists)
        self.assertEqual(function(*lists), told)
        self.assertEqual(lists, before)
        return told
