"""Promises 3 and 7: messages within one list that stays as it is."""

import unittest

from folklist.folk import Folk
from tests.helpers import bring, bring_all, double, drop_all, place_of


def message_kinds(folk):
    return [letter[0] for letter in folk.letters()]


class SteadyTest(unittest.TestCase):
    """All letters come."""

    def test_every_size_takes_what_was_said(self):
        for many in range(1, 10):
            folk = Folk(many, list(range(many)))
            sayer = many - 1
            self.assertIsNone(folk.say(sayer, "a"))
            self.assertEqual(folk.calm(), 1 + 3 * (many - 1))
            folk.say(0, "b")
            folk.say(sayer, "a")
            folk.calm()
            second = (0, 1 if sayer == 0 else 0, "b")
            third = (sayer, 2 if sayer == 0 else 1, "a")
            for hand in range(many):
                self.assertEqual(folk.taken(hand), [(sayer, 0, "a"), second, third])
                self.assertIs(folk.is_still(hand), False)
                self.assertEqual(folk.past(hand), [])

    def test_first_list_that_is_not_all_hands(self):
        folk = Folk(6, [2, 3, 5])
        folk.say(5, "x")
        folk.say(2, "y")
        self.assertEqual(folk.letters(), [("wish", 5, 2), ("wish", 2, 2)])
        folk.calm()
        for hand in (2, 3, 5):
            self.assertEqual(folk.taken(hand), [(5, 0, "x"), (2, 0, "y")])

    def test_the_first_hand_orders(self):
        folk = Folk(3, [0, 1, 2])
        folk.say(1, "one")
        folk.say(2, "two")
        bring(folk, "wish", 2)
        folk.calm()
        for hand in range(3):
            self.assertEqual(folk.taken(hand), [(2, 0, "two"), (1, 0, "one")])

    def test_count_goes_on_behind_a_lost_wish(self):
        folk = Folk(2, [0, 1])
        folk.say(1, "")
        folk.lose(0)
        folk.say(1, "again")
        folk.calm()
        self.assertEqual(folk.taken(0), [(1, 1, "again")])

    def test_same_words_are_several_messages(self):
        folk = Folk(3, [0, 1, 2])
        for hand in (1, 1, 2):
            folk.say(hand, "same")
        folk.calm()
        self.assertEqual(folk.taken(2), [(1, 0, "same"), (1, 1, "same"), (2, 0, "same")])

    def test_just_enough_hands_stand_and_one_fewer(self):
        for many, may_fall in ((1, 0), (2, 0), (3, 1), (4, 1), (5, 2), (8, 3), (9, 4)):
            folk = Folk(many, list(range(many)))
            for hand in range(many - may_fall, many):
                folk.fall(hand)
            folk.say(0, "a")
            folk.calm()
            for hand in range(many):
                stands = hand < many - may_fall
                self.assertEqual(folk.taken(hand), [(0, 0, "a")] if stands else [], (many, hand))
            if many > 1:
                folk.fall(many - may_fall - 1)
                folk.say(0, "b")
                folk.calm()
                for hand in range(many - may_fall):
                    self.assertEqual(folk.taken(hand), [(0, 0, "a")], (many, hand))

    def test_the_first_hand_fell(self):
        folk = Folk(3, [0, 1, 2])
        folk.fall(0)
        folk.say(1, "a")
        self.assertEqual(folk.calm(), 1)
        for hand in range(3):
            self.assertEqual(folk.taken(hand), [])

    def test_what_was_sent_ahead_of_falling_comes(self):
        folk = Folk(3, [0, 1, 2])
        folk.say(2, "last")
        folk.fall(2)
        folk.calm()
        self.assertEqual(folk.taken(0), [(2, 0, "last")])
        self.assertEqual(folk.taken(1), [(2, 0, "last")])
        self.assertEqual(folk.taken(2), [])

    def test_a_letter_to_a_hand_that_fell_does_nothing(self):
        folk = Folk(2, [0, 1])
        folk.say(0, "a")
        bring(folk, "wish")
        folk.fall(1)
        folk.come(0)
        self.assertEqual(folk.letters(), [])
        self.assertEqual(folk.taken(0), [])


class AnyOrderTest(unittest.TestCase):
    """Letters come late, twice, ahead of others, or not at all."""

    def put(self, folk, words):
        for word in words:
            folk.say(0, word)
        bring_all(folk, "wish")

    def test_a_wish_that_comes_twice_is_put_once(self):
        folk = Folk(2, [0, 1])
        folk.say(1, "a")
        folk.double(0)
        bring(folk, "wish")
        self.assertEqual(folk.letters(), [("wish", 1, 0), ("hold", 0, 1)])
        bring(folk, "wish")
        self.assertEqual(folk.letters(), [("hold", 0, 1)])
        folk.calm()
        self.assertEqual(folk.taken(0), [(1, 0, "a")])
        self.assertEqual(folk.taken(1), [(1, 0, "a")])

    def test_the_first_hand_holds_itself_and_does_not_take_alone(self):
        folk = Folk(3, [0, 1, 2])
        self.put(folk, "a")
        self.assertEqual(folk.taken(0), [])
        bring(folk, "hold", 0, 2)
        self.assertEqual(folk.taken(0), [])
        bring(folk, "have", 2, 0)
        self.assertEqual(folk.taken(0), [(0, 0, "a")])
        self.assertEqual(folk.taken(2), [])
        bring(folk, "take", 0, 2)
        self.assertEqual(folk.taken(2), [(0, 0, "a")])
        self.assertEqual(folk.taken(1), [])

    def test_a_place_beyond_the_end(self):
        folk = Folk(3, [0, 1, 2])
        self.put(folk, "ab")
        folk.come(place_of(folk, "hold", 0, 1) + 2)
        self.assertEqual(message_kinds(folk), ["hold"] * 3)
        self.assertEqual(folk.letters(), [("hold", 0, 1), ("hold", 0, 2), ("hold", 0, 2)])
        bring(folk, "hold", 0, 1)
        bring(folk, "have", 1, 0)
        self.assertEqual(folk.taken(0), [(0, 0, "a")])

    def test_a_place_ahead_of_the_end_is_answered_with_all_that_is_held(self):
        folk = Folk(2, [0, 1])
        self.put(folk, "ab")
        folk.double(0)
        bring(folk, "hold")
        bring(folk, "hold")
        drop_all(folk, "have")
        self.assertEqual(folk.letters(), [("hold", 0, 1)])
        bring(folk, "hold")
        self.assertEqual(folk.letters(), [("have", 1, 0)])
        bring(folk, "have")
        self.assertEqual(folk.taken(0), [(0, 0, "a"), (0, 1, "b")])

    def test_the_greatest_number_that_enough_hold(self):
        folk = Folk(5, [0, 1, 2, 3, 4])
        self.put(folk, "abc")
        for hand, many in ((1, 3), (2, 2), (3, 1)):
            for _ in range(many):
                bring(folk, "hold", 0, hand)
        bring(folk, "have", 3, 0)
        self.assertEqual(folk.taken(0), [])
        bring_all(folk, "have")
        self.assertEqual(folk.taken(0), [(0, 0, "a"), (0, 1, "b")])
        self.assertEqual([letter for letter in folk.letters() if letter[0] == "take"],
                         [("take", 0, hand) for hand in (1, 2, 3, 4)] * 2)

    def test_takes_several_at_once(self):
        folk = Folk(2, [0, 1])
        self.put(folk, "abc")
        bring_all(folk, "hold")
        folk.come(2)
        self.assertEqual(len(folk.taken(0)), 3)
        self.assertEqual(folk.letters(), [("have", 1, 0), ("have", 1, 0), ("take", 0, 1)])

    def test_a_late_have_does_not_take_back_what_is_known(self):
        folk = Folk(5, [0, 1, 2, 3, 4])
        self.put(folk, "ab")
        bring(folk, "hold", 0, 1)
        bring(folk, "hold", 0, 1)
        folk.come(place_of(folk, "have", 1, 0) + 1)
        bring(folk, "have", 1, 0)
        bring(folk, "hold", 0, 2)
        bring(folk, "hold", 0, 2)
        folk.come(place_of(folk, "have", 2, 0) + 1)
        self.assertEqual(folk.taken(0), [(0, 0, "a"), (0, 1, "b")])

    def test_a_have_that_comes_twice_counts_as_one_hand(self):
        folk = Folk(5, [0, 1, 2, 3, 4])
        self.put(folk, "a")
        bring(folk, "hold", 0, 4)
        double(folk, "have")
        double(folk, "have")
        bring_all(folk, "have")
        self.assertEqual(folk.taken(0), [])

    def test_a_have_that_changes_nothing_sends_nothing(self):
        folk = Folk(3, [0, 1, 2])
        self.put(folk, "a")
        bring_all(folk, "hold")
        bring_all(folk, "have")
        self.assertEqual(folk.letters(), [("take", 0, 1), ("take", 0, 2)])

    def test_a_take_beyond_what_is_held(self):
        folk = Folk(3, [0, 1, 2])
        self.put(folk, "ab")
        bring(folk, "hold", 0, 2)
        bring(folk, "hold", 0, 1)
        bring(folk, "hold", 0, 1)
        folk.come(place_of(folk, "have", 1, 0) + 1)
        self.assertEqual(len(folk.taken(0)), 2)
        bring(folk, "take", 0, 2)
        self.assertEqual(folk.taken(2), [(0, 0, "a")])
        bring(folk, "hold", 0, 2)
        self.assertEqual(folk.taken(2), [(0, 0, "a")])

    def test_a_late_take_does_not_take_back(self):
        folk = Folk(2, [0, 1])
        self.put(folk, "ab")
        bring_all(folk, "hold")
        bring(folk, "have")
        bring(folk, "have")
        self.assertEqual(folk.letters(), [("take", 0, 1), ("take", 0, 1)])
        folk.come(1)
        self.assertEqual(len(folk.taken(1)), 2)
        folk.come(0)
        self.assertEqual(len(folk.taken(1)), 2)

    def test_a_lost_take_is_made_good_by_the_next(self):
        folk = Folk(2, [0, 1])
        folk.say(1, "a")
        for kind in ("wish", "hold", "have"):
            bring(folk, kind)
        drop_all(folk)
        self.assertEqual(folk.taken(1), [])
        folk.say(1, "b")
        folk.calm()
        self.assertEqual(folk.taken(1), [(1, 0, "a"), (1, 1, "b")])

    def test_the_first_hand_alone(self):
        folk = Folk(3, [1])
        folk.say(1, "a")
        folk.double(0)
        bring(folk, "wish")
        self.assertEqual(folk.taken(1), [(1, 0, "a")])
        self.assertEqual(folk.letters(), [("wish", 1, 1)])
        bring(folk, "wish")
        self.assertEqual(folk.letters(), [])
        self.assertEqual(folk.taken(1), [(1, 0, "a")])


class PressTest(unittest.TestCase):
    def test_press_with_nothing_put(self):
        folk = Folk(3, [0, 1, 2])
        self.assertIsNone(folk.press(0))
        self.assertEqual(folk.letters(), [("take", 0, 1), ("take", 0, 2)])
        self.assertEqual(folk.calm(), 2)
        self.assertEqual(folk.taken(1), [])

    def test_press_alone(self):
        folk = Folk(2, [1])
        folk.say(1, "a")
        folk.calm()
        folk.press(1)
        self.assertEqual(folk.letters(), [])

    def test_press_sends_the_row_in_order_and_then_a_take(self):
        folk = Folk(4, [1, 2, 3])
        folk.say(2, "a")
        folk.say(3, "b")
        bring_all(folk, "wish")
        drop_all(folk)
        folk.press(1)
        self.assertEqual(folk.letters(), [("hold", 1, 2), ("hold", 1, 3)] * 2
                         + [("take", 1, 2), ("take", 1, 3)])
        bring(folk, "hold", 1, 2)
        bring(folk, "hold", 1, 2)
        bring(folk, "have", 2, 1)
        self.assertEqual(folk.taken(1), [(2, 0, "a")])
        folk.calm()
        for hand in (1, 2, 3):
            self.assertEqual(folk.taken(hand), [(2, 0, "a"), (3, 0, "b")])

    def test_the_take_of_a_press_tells_what_was_taken_then(self):
        folk = Folk(2, [0, 1])
        folk.say(0, "a")
        bring(folk, "wish")
        folk.press(0)
        bring(folk, "hold")
        bring(folk, "have")
        self.assertEqual(folk.letters(), [("hold", 0, 1), ("take", 0, 1), ("take", 0, 1)])
        folk.come(1)
        self.assertEqual(folk.taken(1), [])
        folk.come(1)
        self.assertEqual(folk.taken(1), [(0, 0, "a")])

    def test_press_takes_again_what_was_lost(self):
        folk = Folk(3, [0, 1, 2])
        folk.say(0, "a")
        for kind in ("wish", "hold", "have"):
            bring(folk, kind)
        drop_all(folk)
        self.assertEqual([folk.taken(hand) for hand in (1, 2)], [[], []])
        folk.press(0)
        folk.calm()
        self.assertEqual([folk.taken(hand) for hand in (1, 2)], [[(0, 0, "a")]] * 2)


class StillTest(unittest.TestCase):
    """A still hand, in a list that stays as it is."""

    def still(self, many, hands):
        """Make a folk in which just these hands are still, and nothing is under way."""
        folk = Folk(many, list(range(many)))
        folk.propose(many - 1, [0])
        for hand in hands:
            bring(folk, "prepare", many - 1, hand)
        drop_all(folk)
        self.assertEqual([hand for hand in range(many) if folk.is_still(hand)], hands)
        return folk

    def test_still_first_hand_puts_nothing(self):
        folk = self.still(3, [0])
        folk.say(1, "a")
        bring(folk, "wish")
        self.assertEqual(folk.letters(), [])
        folk.press(0)
        self.assertEqual(folk.letters(), [("take", 0, 1), ("take", 0, 2)])

    def test_still_first_hand_alone_puts_nothing(self):
        folk = self.still(1, [0])
        folk.say(0, "a")
        self.assertEqual(folk.calm(), 1)
        self.assertEqual(folk.taken(0), [])

    def test_still_hand_holds_nothing_and_answers_no_hold(self):
        folk = self.still(3, [1])
        folk.say(0, "a")
        bring(folk, "wish")
        bring(folk, "hold", 0, 1)
        self.assertEqual(folk.letters(), [("hold", 0, 2)])
        bring(folk, "hold", 0, 2)
        bring(folk, "have", 2, 0)
        bring(folk, "take", 0, 1)
        self.assertEqual(folk.taken(1), [])
        bring(folk, "take", 0, 2)
        self.assertEqual(folk.taken(2), [(0, 0, "a")])

    def test_still_hand_answers_no_hold_of_what_it_holds(self):
        folk = Folk(2, [0, 1])
        folk.say(0, "a")
        bring(folk, "wish")
        double(folk, "hold")
        bring(folk, "hold")
        folk.propose(1, [0])
        bring(folk, "prepare", 1, 1)
        drop_all(folk, "have")
        bring(folk, "hold")
        self.assertEqual(folk.letters(), [("prepare", 1, 0), ("promise", 1, 1)])

    def test_still_hand_takes_what_it_holds(self):
        folk = Folk(3, [0, 1, 2])
        folk.say(0, "a")
        bring(folk, "wish")
        bring(folk, "hold", 0, 1)
        folk.propose(2, [0])
        bring(folk, "prepare", 2, 1)
        self.assertTrue(folk.is_still(1))
        bring(folk, "have", 1, 0)
        bring(folk, "take", 0, 1)
        self.assertEqual(folk.taken(1), [(0, 0, "a")])

    def test_still_first_hand_takes_what_enough_hold_and_presses(self):
        folk = Folk(3, [0, 1, 2])
        folk.say(0, "a")
        bring(folk, "wish")
        bring(folk, "hold", 0, 1)
        folk.propose(2, [0])
        bring(folk, "prepare", 2, 0)
        self.assertTrue(folk.is_still(0))
        bring(folk, "have", 1, 0)
        self.assertEqual(folk.taken(0), [(0, 0, "a")])
        drop_all(folk)
        folk.press(0)
        self.assertEqual(folk.letters(), [("hold", 0, 1), ("hold", 0, 2),
                                          ("take", 0, 1), ("take", 0, 2)])
        folk.calm()
        for hand in range(3):
            self.assertEqual(folk.taken(hand), [(0, 0, "a")])

    def test_a_still_hand_says_a_word(self):
        folk = self.still(3, [1])
        folk.say(1, "a")
        self.assertEqual(folk.letters(), [("wish", 1, 0)])
        folk.calm()
        self.assertEqual(folk.taken(2), [(1, 0, "a")])
        self.assertEqual(folk.taken(1), [])

    def test_an_offerer_is_not_still_ahead_of_its_own_prepare(self):
        folk = Folk(2, [0, 1])
        folk.propose(1, [1])
        self.assertIs(folk.is_still(1), False)
        bring(folk, "prepare", 1, 1)
        self.assertIs(folk.is_still(1), True)
        self.assertIs(folk.is_still(0), False)


if __name__ == "__main__":
    unittest.main()
