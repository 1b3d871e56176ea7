"""Promise 2: making a Folk, what it refuses, and what it tells at the beginning."""

import inspect
import unittest

from folklist import errors
from folklist.errors import BadHand, BadList, FolkError, Outside
from folklist.folk import Folk
from tests.test_lists import NO_HANDS, NO_LISTS


class ErrorsTest(unittest.TestCase):
    def test_each_stands_straight_under_folk_error(self):
        self.assertEqual(FolkError.__bases__, (ValueError,))
        for name in ("BadHand", "BadList", "NoLetter", "Fallen", "Outside", "NotFirst", "NoNews"):
            kind = getattr(errors, name)
            self.assertEqual(kind.__bases__, (FolkError,), name)
            self.assertEqual(kind.__module__, "folklist.errors")


class MakingTest(unittest.TestCase):
    def test_each_number_of_hands(self):
        for many in range(1, 10):
            folk = Folk(many, list(range(many)))
            self.assertEqual(folk.many, many)
            for hand in range(many):
                self.assertEqual(folk.list_of(hand), (0, list(range(many))))

    def test_no_number_of_hands(self):
        for many in NO_HANDS + [0, 10, -1, -10 ** 30, 10 ** 30, 10 ** 5000, [], (), "nine"]:
            with self.assertRaises(BadHand):
                Folk(many, [0])

    def test_no_list(self):
        for first in NO_LISTS + [[], [3], [0, 3], [-1], [1, 0], [0, 0], [10 ** 5000]]:
            with self.assertRaises(BadList):
                Folk(3, first)
        for thing in NO_HANDS:
            with self.assertRaises(BadList):
                Folk(3, [thing])

    def test_number_is_refused_ahead_of_list(self):
        for many in (0, 10, True, None, "3"):
            for first in ([], None, [-1], "0"):
                with self.assertRaises(BadHand):
                    Folk(many, first)

    def test_what_is_handed_in_stays_and_is_not_kept(self):
        first = [0, 2]
        folk = Folk(3, first)
        self.assertEqual(first, [0, 2])
        first.append(7)
        self.assertEqual(folk.list_of(0), (0, [0, 2]))

    def test_methods_stand_in_the_class_itself(self):
        names = ("say press propose show fall come lose double calm letters stands list_of taken"
                 " is_still witness past")
        for name in names.split():
            self.assertTrue(inspect.isfunction(Folk.__dict__[name]), name)
        self.assertEqual(Folk.__module__, "folklist.folk")


class BeginningTest(unittest.TestCase):
    def test_hands_in_the_first_list(self):
        folk = Folk(5, [1, 3, 4])
        for hand in (1, 3, 4):
            self.assertIs(folk.stands(hand), True)
            self.assertEqual(folk.list_of(hand), (0, [1, 3, 4]))
            self.assertEqual(folk.taken(hand), [])
            self.assertIs(folk.is_still(hand), False)
            self.assertEqual(folk.witness(hand), [])
            self.assertEqual(folk.past(hand), [])

    def test_hands_in_no_list(self):
        folk = Folk(5, [1, 3, 4])
        for hand in (0, 2):
            self.assertIs(folk.stands(hand), True)
            self.assertEqual(folk.past(hand), [])
            for ask in (folk.list_of, folk.taken, folk.is_still, folk.witness):
                with self.assertRaises(Outside):
                    ask(hand)

    def test_no_letters(self):
        folk = Folk(3, [0, 1, 2])
        self.assertEqual(folk.letters(), [])
        self.assertEqual(folk.calm(), 0)

    def test_kinds_of_what_is_told(self):
        folk = Folk(2, [0])
        number, members = told = folk.list_of(0)
        self.assertIs(type(told), tuple)
        self.assertIs(type(number), int)
        self.assertIs(type(members), list)
        for thing in (folk.letters(), folk.taken(0), folk.witness(0), folk.past(0)):
            self.assertIs(type(thing), list)
        self.assertIs(type(folk.many), int)

    def test_lists_told_are_lists_of_their_own(self):
        folk = Folk(3, [0, 1])
        folk.list_of(0)[1].append(2)
        folk.taken(0).append((0, 0, "a"))
        folk.witness(0).append(1)
        folk.past(0).append((0, [0], []))
        folk.letters().append(("wish", 0, 0))
        self.assertEqual(folk.list_of(0), (0, [0, 1]))
        self.assertEqual(folk.list_of(1), (0, [0, 1]))
        self.assertEqual(folk.taken(0), [])
        self.assertEqual(folk.witness(0), [])
        self.assertEqual(folk.past(0), [])
        self.assertEqual(folk.letters(), [])


if __name__ == "__main__":
    unittest.main()
