"""Points [23] and [25]: integers, sequences, words, ticks, calendars."""

import unittest

from samples import CALENDARS, NO_CALENDARS, NO_SEQUENCES, NO_TICKS, as_lists

from wholeflow.forms import as_tuples, is_ascending, is_calendar, is_integer, is_tick, is_word


class IntegersTest(unittest.TestCase):

    def test_bounds(self):
        for value, told in ((0, False), (1, True), (5, True), (6, False), (-10 ** 30, False)):
            self.assertIs(is_integer(value, 1, 5), told)

    def test_true_and_false_are_none(self):
        self.assertIs(is_integer(True, 0, 5), False)
        self.assertIs(is_integer(False, 0, 5), False)

    def test_other_values(self):
        for value in (None, "1", "", (), [1], (1,)):
            self.assertIs(is_integer(value, 0, 5), False)

    def test_ticks(self):
        for value in (0, 1, 10 ** 6 - 1, 10 ** 6):
            self.assertIs(is_tick(value), True)
        for value in NO_TICKS:
            self.assertIs(is_tick(value), False)


class SequencesTest(unittest.TestCase):

    def test_ascending(self):
        for value in ((), [], (0,), [4], (0, 4), [0, 1, 2, 3, 4]):
            self.assertIs(is_ascending(value, 0, 4), True)
        for value in ((5,), (-1,), (1, 0), (1, 1), (0, True), ("0",), (0, None), ((0,),)):
            self.assertIs(is_ascending(value, 0, 4), False)

    def test_no_sequences(self):
        for value in NO_SEQUENCES:
            self.assertIs(is_ascending(value, 0, 4), False)

    def test_as_tuples(self):
        self.assertEqual(as_tuples([1, [2, ("a", [])], None]), (1, (2, ("a", ())), None))
        self.assertEqual(as_tuples("abc"), "abc")


class WordsTest(unittest.TestCase):

    def test_words(self):
        for value in ("a", "z", "az", "abcdefgh"):
            self.assertIs(is_word(value), True)

    def test_no_words(self):
        for value in ("", "abcdefghi", "A", "a1", "a b", " a", "a\n", "a-", "`", "{", "a" * 20000):
            self.assertIs(is_word(value), False)

    def test_no_strings(self):
        for value in (None, True, 1, (), ["a"], ("a", "b")):
            self.assertIs(is_word(value), False)


class CalendarsTest(unittest.TestCase):

    def test_calendars(self):
        for value in CALENDARS:
            self.assertIs(is_calendar(value), True)
            self.assertIs(is_calendar(as_lists(value)), True)

    def test_no_calendars(self):
        for value in NO_CALENDARS:
            self.assertIs(is_calendar(value), False)


if __name__ == "__main__":
    unittest.main()
