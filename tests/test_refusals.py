"""Promise 6: which refusal comes, in which order, and that what is refused changes nothing."""

import unittest

from folklist.errors import (BadHand, BadList, Fallen, NoLetter, NoNews, NotFirst, Outside)
from folklist.folk import Folk
from tests.helpers import told
from tests.test_lists import NO_HANDS, NO_LISTS

NOT_THERE = NO_HANDS + [5, 9, -1, -5, 10 ** 30, -10 ** 30, 10 ** 5000, [], (), [0, 1], "zero"]


def some_folk():
    """Make a folk of five: 0 fell in list 1, 1 and 2 are in it, 3 fell and is in no list, 4 left."""
    folk = Folk(5, [0, 1, 2, 4])
    folk.say(4, "a")
    folk.calm()
    folk.propose(1, [0, 1, 2])
    folk.calm()
    folk.fall(0)
    folk.fall(3)
    folk.say(2, "b")
    folk.propose(2, [1, 2, 4])
    folk.come(1)
    folk.come(1)
    return folk


class RefusalTest(unittest.TestCase):
    def setUp(self):
        self.folk = some_folk()
        self.before = told(self.folk)

    def refused(self, error, deed, *handed):
        with self.assertRaises(error) as caught:
            deed(*handed)
        self.assertIs(type(caught.exception), error)
        self.assertEqual(told(self.folk), self.before)

    def test_no_hand_is_refused_by_all(self):
        folk = self.folk
        for thing in NOT_THERE:
            for ask in (folk.stands, folk.list_of, folk.taken, folk.is_still, folk.witness,
                        folk.past, folk.press, folk.fall):
                self.refused(BadHand, ask, thing)
            self.refused(BadHand, folk.say, thing, "a")
            self.refused(BadHand, folk.propose, thing, [0])
            self.refused(BadHand, folk.propose, thing, None)
            self.refused(BadHand, folk.show, thing, 1)
            self.refused(BadHand, folk.show, thing, thing)

    def test_fallen_is_ahead_of_all_else(self):
        folk = self.folk
        for hand in (0, 3):
            self.refused(Fallen, folk.say, hand, "a")
            self.refused(Fallen, folk.press, hand)
            self.refused(Fallen, folk.propose, hand, [0])
            self.refused(Fallen, folk.propose, hand, [])
            self.refused(Fallen, folk.show, hand, 1)
            self.refused(Fallen, folk.show, hand, None)
            self.refused(Fallen, folk.fall, hand)

    def test_outside_is_ahead_of_what_is_told_behind_it(self):
        folk = self.folk
        self.refused(Outside, folk.say, 4, "a")
        self.refused(Outside, folk.press, 4)
        self.refused(Outside, folk.propose, 4, [4])
        self.refused(Outside, folk.propose, 4, "none")
        self.refused(Outside, folk.show, 4, 1)
        self.refused(Outside, folk.show, 4, True)
        for hand in (3, 4):
            for ask in (folk.list_of, folk.taken, folk.is_still, folk.witness):
                self.refused(Outside, ask, hand)

    def test_not_first(self):
        self.refused(NotFirst, self.folk.press, 1)
        self.refused(NotFirst, self.folk.press, 2)
        other = Folk(4, [1, 2])
        other.press(1)
        with self.assertRaises(NotFirst):
            other.press(2)
        with self.assertRaises(Outside):
            other.press(0)

    def test_bad_list(self):
        for members in NO_LISTS + [[], [5], [0, 5], [-1], [1, 0], [2, 2], [10 ** 5000], [[0]]]:
            self.refused(BadList, self.folk.propose, 2, members)
        for thing in NO_HANDS:
            self.refused(BadList, self.folk.propose, 2, [thing])
            self.refused(BadList, self.folk.propose, 2, [0, thing])

    def test_show_other_hand(self):
        for other in NOT_THERE:
            self.refused(BadHand, self.folk.show, 2, other)
        first = Folk(2, [0, 1])
        for other in NO_HANDS + [2, -1, 10 ** 5000]:
            with self.assertRaises(BadHand):
                first.show(0, other)
        for other in (0, 1):
            with self.assertRaises(NoNews):
                first.show(0, other)
        self.assertEqual(first.letters(), [])

    def test_show_in_list_nought(self):
        folk = Folk(3, [0, 1])
        folk.fall(1)
        with self.assertRaises(Fallen):
            folk.show(1, 0)
        for other in (0, 1, 2):
            with self.assertRaises(NoNews):
                folk.show(0, other)

    def test_a_place_of_no_letter(self):
        folk = self.folk
        many = len(folk.letters())
        for place in NO_HANDS + [many, many + 1, -1, -many, 10 ** 5000]:
            for deed in (folk.come, folk.lose, folk.double):
                self.refused(NoLetter, deed, place)

    def test_a_refused_say_is_not_counted(self):
        folk = Folk(2, [0])
        with self.assertRaises(Outside):
            folk.say(1, "a")
        folk.propose(0, [0, 1])
        folk.calm()
        folk.say(1, "b")
        folk.calm()
        self.assertEqual(folk.taken(0), [(1, 0, "b")])

    def test_a_refused_offer_does_not_count_as_the_last(self):
        folk = Folk(3, [0, 1, 2])
        folk.propose(0, [0, 1])
        with self.assertRaises(BadList):
            folk.propose(0, [1, 0])
        folk.calm()
        self.assertEqual(folk.list_of(1), (1, [0, 1]))


class FallenTellTest(unittest.TestCase):
    def test_a_fallen_hand_tells_what_it_knew(self):
        folk = some_folk()
        self.assertIs(folk.stands(0), False)
        self.assertEqual(folk.list_of(0), (1, [0, 1, 2]))
        self.assertEqual(folk.taken(0), [])
        self.assertIs(folk.is_still(0), False)
        self.assertEqual(folk.witness(0), [0, 1, 2])
        self.assertEqual(folk.past(0), [(0, [0, 1, 2, 4], [(4, 0, "a")])])
        self.assertIs(folk.stands(3), False)
        self.assertEqual(folk.past(3), [])

    def test_what_it_took_and_that_it_was_still(self):
        folk = Folk(3, [0, 1, 2])
        folk.say(0, "a")
        folk.calm()
        folk.propose(1, [1])
        folk.come(2)
        folk.fall(2)
        self.assertEqual(folk.taken(2), [(0, 0, "a")])
        self.assertIs(folk.is_still(2), True)
        folk.calm()
        self.assertEqual(folk.list_of(2), (0, [0, 1, 2]))
        self.assertEqual(folk.taken(2), [(0, 0, "a")])
        self.assertEqual(folk.past(2), [])

    def test_fall(self):
        folk = Folk(3, [0, 1])
        for hand in (0, 2):
            self.assertIsNone(folk.fall(hand))
            self.assertIs(folk.stands(hand), False)
        self.assertIs(folk.stands(1), True)
        self.assertEqual(folk.letters(), [])


if __name__ == "__main__":
    unittest.main()
