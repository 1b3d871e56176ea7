"""Promise 5: the letters under way, behind each deed and behind come, lose, double, calm."""

import unittest

from folklist.errors import NoLetter
from folklist.folk import Folk
from tests.helpers import bring, told
from tests.test_lists import NO_HANDS


def all_to_all(kind, sender, hands):
    return [(kind, sender, hand) for hand in hands]


class OrderTest(unittest.TestCase):
    def test_one_message(self):
        folk = Folk(4, [0, 1, 3])
        folk.say(3, "a")
        self.assertEqual(folk.letters(), [("wish", 3, 0)])
        folk.come(0)
        self.assertEqual(folk.letters(), [("hold", 0, 1), ("hold", 0, 3)])
        folk.come(0)
        self.assertEqual(folk.letters(), [("hold", 0, 3), ("have", 1, 0)])
        folk.come(1)
        self.assertEqual(folk.letters(), [("hold", 0, 3), ("take", 0, 1), ("take", 0, 3)])
        folk.come(1)
        self.assertEqual(folk.letters(), [("hold", 0, 3), ("take", 0, 3)])
        folk.come(0)
        self.assertEqual(folk.letters(), [("take", 0, 3), ("have", 3, 0)])
        folk.come(1)
        self.assertEqual(folk.letters(), [("take", 0, 3)])
        self.assertEqual(folk.calm(), 1)
        self.assertEqual(folk.letters(), [])

    def test_one_offer(self):
        folk = Folk(5, [0, 2, 3])
        hands = [0, 2, 3]
        folk.propose(2, [1, 2])
        self.assertEqual(folk.letters(), all_to_all("prepare", 2, hands))
        for _ in hands:
            folk.come(0)
        self.assertEqual(folk.letters(), [("promise", hand, 2) for hand in hands])
        folk.come(0)
        folk.come(0)
        self.assertEqual(folk.letters(), [("promise", 3, 2)] + all_to_all("accept", 2, hands))
        for _ in range(4):
            folk.come(0)
        self.assertEqual(folk.letters(), [("agree", hand, 2) for hand in hands])
        folk.come(2)
        self.assertEqual(folk.letters(), [("agree", 0, 2), ("agree", 2, 2)])
        folk.come(1)
        self.assertEqual(folk.letters(), [("agree", 0, 2)] + all_to_all("enter", 2, [0, 1, 2, 3]))
        self.assertEqual(folk.calm(), 5)
        self.assertEqual(folk.letters(), [])

    def test_press(self):
        folk = Folk(3, [0, 1, 2])
        folk.say(0, "a")
        folk.say(0, "b")
        folk.come(0)
        folk.come(0)
        holds = [("hold", 0, 1), ("hold", 0, 2)] * 2
        self.assertEqual(folk.letters(), holds)
        folk.press(0)
        self.assertEqual(folk.letters(), holds * 2 + [("take", 0, 1), ("take", 0, 2)])

    def test_show_to_another_and_to_itself_and_to_a_fallen_hand(self):
        folk = Folk(3, [0, 1])
        folk.propose(0, [1])
        folk.calm()
        folk.fall(0)
        for other in (2, 1, 0):
            self.assertIsNone(folk.show(1, other))
        self.assertEqual(folk.letters(), [("enter", 1, 2), ("enter", 1, 1), ("enter", 1, 0)])
        self.assertEqual(folk.calm(), 3)

    def test_letters_to_fallen_hands_are_under_way_too(self):
        folk = Folk(3, [0, 1, 2])
        folk.fall(1)
        folk.propose(0, [0, 1])
        self.assertEqual(folk.letters(), all_to_all("prepare", 0, [0, 1, 2]))
        folk.fall(0)
        self.assertEqual(folk.letters(), all_to_all("prepare", 0, [0, 1, 2]))
        self.assertEqual(folk.calm(), 4)


class MovingTest(unittest.TestCase):
    def three_wishes(self):
        folk = Folk(4, [0, 1, 2, 3])
        for hand in (1, 2, 3):
            folk.say(hand, "a")
        return folk

    def test_come_in_the_middle(self):
        folk = self.three_wishes()
        self.assertIsNone(folk.come(1))
        self.assertEqual(folk.letters(), [("wish", 1, 0), ("wish", 3, 0), ("hold", 0, 1),
                                          ("hold", 0, 2), ("hold", 0, 3)])

    def test_lose(self):
        folk = self.three_wishes()
        self.assertIsNone(folk.lose(1))
        self.assertEqual(folk.letters(), [("wish", 1, 0), ("wish", 3, 0)])
        folk.lose(1)
        folk.lose(0)
        self.assertEqual(folk.letters(), [])
        self.assertEqual(folk.taken(0), [])

    def test_double_goes_behind_all_others(self):
        folk = self.three_wishes()
        self.assertIsNone(folk.double(0))
        self.assertEqual(folk.letters(), [("wish", 1, 0), ("wish", 2, 0), ("wish", 3, 0),
                                          ("wish", 1, 0)])
        folk.lose(0)
        folk.calm()
        self.assertEqual(folk.taken(1), [(2, 0, "a"), (3, 0, "a"), (1, 0, "a")])

    def test_a_double_can_be_doubled(self):
        folk = self.three_wishes()
        folk.double(2)
        folk.double(3)
        self.assertEqual(folk.letters()[2:], [("wish", 3, 0)] * 3)

    def test_calm_brings_the_first_one_again_and_again(self):
        one, other = self.three_wishes(), self.three_wishes()
        came = 0
        while one.letters():
            one.come(0)
            came += 1
        self.assertEqual(other.calm(), came)
        self.assertEqual(told(one), told(other))
        self.assertEqual(other.calm(), 0)

    def test_calm_counts_letters_that_do_nothing(self):
        folk = self.three_wishes()
        folk.fall(0)
        folk.double(1)
        self.assertEqual(folk.calm(), 4)
        self.assertEqual(told(folk)[0], [])


class NoLetterTest(unittest.TestCase):
    def test_where_there_is_none(self):
        folk = Folk(3, [0, 1, 2])
        for deed in (folk.come, folk.lose, folk.double):
            for place in (0, 1, -1):
                with self.assertRaises(NoLetter):
                    deed(place)
        folk.say(1, "a")
        folk.say(2, "a")
        before = told(folk)
        for deed in (folk.come, folk.lose, folk.double):
            for place in NO_HANDS + [2, 3, -1, -2, -3, 10 ** 30, -10 ** 30, 10 ** 5000, [], ()]:
                with self.assertRaises(NoLetter):
                    deed(place)
        self.assertEqual(told(folk), before)
        folk.come(1)
        bring(folk, "hold", 0, 1)

    def test_letters_told_are_a_list_of_their_own(self):
        folk = Folk(2, [0, 1])
        folk.say(1, "a")
        first = folk.letters()
        first.clear()
        second = folk.letters()
        folk.calm()
        self.assertEqual(second, [("wish", 1, 0)])
        self.assertEqual(folk.taken(1), [(1, 0, "a")])


if __name__ == "__main__":
    unittest.main()
