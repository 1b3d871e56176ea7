"""Promises 4, 8 and 9: from one list to the next."""

import unittest

from folklist.errors import Outside
from folklist.folk import Folk
from tests.helpers import bring, bring_all, double, drop_all, move_to, place_of


def kinds(folk):
    return [letter[0] for letter in folk.letters()]


class OneOfferTest(unittest.TestCase):
    """One hand offers, and all letters come."""

    def test_every_size_goes_on(self):
        for many in range(1, 10):
            members = list(range(many))
            folk = Folk(many, members)
            self.assertIsNone(folk.propose(many - 1, members))
            self.assertEqual(folk.calm(), 5 * many)
            for hand in range(many):
                self.assertEqual(folk.list_of(hand), (1, members))
                self.assertEqual(folk.past(hand), [(0, members, [])])
                self.assertEqual(folk.witness(hand), list(range(many // 2 + 1)))
                self.assertIs(folk.is_still(hand), False)
                self.assertEqual(folk.taken(hand), [])

    def test_goes_on_joins_and_leaves(self):
        folk = Folk(5, [0, 1, 2])
        folk.say(2, "a")
        folk.calm()
        move_to(folk, 0, [1, 2, 4])
        row = [(2, 0, "a")]
        for hand in (1, 2):
            self.assertEqual(folk.list_of(hand), (1, [1, 2, 4]))
            self.assertEqual(folk.past(hand), [(0, [0, 1, 2], row)])
        self.assertEqual(folk.list_of(4), (1, [1, 2, 4]))
        self.assertEqual(folk.past(4), [])
        self.assertEqual(folk.witness(4), [0, 1])
        self.assertEqual(folk.past(0), [(0, [0, 1, 2], row)])
        self.assertEqual(folk.past(3), [])
        for hand in (0, 3):
            with self.assertRaises(Outside):
                folk.list_of(hand)

    def test_an_offer_without_the_offerer_and_without_any_hand_of_the_list(self):
        folk = Folk(4, [0, 1])
        move_to(folk, 1, [2, 3])
        self.assertEqual(folk.list_of(2), (1, [2, 3]))
        self.assertEqual(folk.list_of(3), (1, [2, 3]))
        self.assertEqual(folk.past(0), [(0, [0, 1], [])])
        move_to(folk, 3, [0])
        self.assertEqual(folk.list_of(0), (2, [0]))
        self.assertEqual(folk.past(0), [(0, [0, 1], [])])

    def test_what_is_offered_is_not_kept(self):
        folk = Folk(3, [0, 1, 2])
        members = [0, 1]
        folk.propose(0, members)
        members.append(2)
        folk.calm()
        self.assertEqual(folk.list_of(0), (1, [0, 1]))
        self.assertEqual(members, [0, 1, 2])

    def test_a_new_list_is_fresh(self):
        folk = Folk(3, [0, 1, 2])
        folk.say(1, "a")
        folk.calm()
        move_to(folk, 0, [0, 1, 2])
        folk.say(1, "b")
        folk.calm()
        for hand in range(3):
            self.assertEqual(folk.taken(hand), [(1, 1, "b")])
        move_to(folk, 2, [0, 1, 2])
        self.assertEqual(folk.past(1), [(0, [0, 1, 2], [(1, 0, "a")]),
                                        (1, [0, 1, 2], [(1, 1, "b")])])

    def test_a_new_first_hand_orders(self):
        folk = Folk(3, [0, 1, 2])
        move_to(folk, 0, [1, 2])
        folk.say(2, "a")
        self.assertEqual(folk.letters(), [("wish", 2, 1)])
        folk.calm()
        self.assertEqual(folk.taken(1), [(2, 0, "a")])

    def test_just_enough_hands_stand_and_one_fewer(self):
        for many, may_fall in ((1, 0), (2, 0), (3, 1), (4, 1), (9, 4)):
            members = list(range(many))
            folk = Folk(many, members)
            for hand in range(may_fall):
                folk.fall(hand)
            move_to(folk, many - 1, members)
            for hand in range(many):
                number = 1 if hand >= may_fall else 0
                self.assertEqual(folk.list_of(hand), (number, members))
            self.assertEqual(folk.witness(many - 1), list(range(may_fall, many)))
        for many, fallen in ((2, 1), (3, 2), (4, 2), (5, 3), (9, 5)):
            members = list(range(many))
            folk = Folk(many, members)
            for hand in range(fallen):
                folk.fall(hand)
            move_to(folk, many - 1, members)
            for hand in range(many):
                self.assertEqual(folk.list_of(hand), (0, members))
                self.assertIs(folk.is_still(hand), hand >= fallen)
                self.assertEqual(folk.past(hand), [])

    def test_a_fallen_hand_stays_in_its_list(self):
        folk = Folk(3, [0, 1, 2])
        folk.fall(2)
        move_to(folk, 0, [0, 1, 2])
        self.assertEqual(folk.list_of(2), (0, [0, 1, 2]))
        self.assertEqual(folk.list_of(0), (1, [0, 1, 2]))
        self.assertEqual(folk.past(2), [])

    def test_what_enough_hands_did_not_take_yet_is_in_the_past(self):
        folk = Folk(3, [0, 1, 2])
        folk.say(0, "a")
        bring(folk, "wish")
        bring(folk, "hold", 0, 2)
        drop_all(folk)
        folk.fall(0)
        folk.propose(1, [1, 2])
        folk.calm()
        self.assertEqual(folk.past(1), [(0, [0, 1, 2], [(0, 0, "a")])])
        self.assertEqual(folk.past(2), [(0, [0, 1, 2], [(0, 0, "a")])])
        self.assertEqual(folk.taken(0), [])

    def test_count_goes_on_in_the_next_list(self):
        folk = Folk(2, [0, 1])
        folk.say(0, "a")
        folk.calm()
        move_to(folk, 0, [0])
        folk.say(0, "b")
        folk.calm()
        self.assertEqual(folk.taken(0), [(0, 1, "b")])


class BallotTest(unittest.TestCase):
    def test_the_same_prepare_twice_is_promised_once(self):
        folk = Folk(3, [0, 1, 2])
        folk.propose(0, [0])
        double(folk, "prepare", 0, 1)
        bring(folk, "prepare", 0, 1)
        bring(folk, "prepare", 0, 1)
        self.assertEqual(kinds(folk).count("promise"), 1)

    def test_as_great_rounds_the_greater_hand(self):
        folk = Folk(3, [0, 1, 2])
        for hand in (1, 0, 2):
            folk.propose(hand, [hand])
        bring(folk, "prepare", 1, 2)
        self.assertEqual(kinds(folk).count("promise"), 1)
        bring(folk, "prepare", 0, 2)
        self.assertEqual(kinds(folk).count("promise"), 1)
        bring(folk, "prepare", 2, 2)
        self.assertEqual(kinds(folk).count("promise"), 2)

    def test_a_round_above_the_ballot_that_is_known(self):
        folk = Folk(3, [0, 1, 2])
        folk.propose(2, [2])
        bring(folk, "prepare", 2, 1)
        bring(folk, "prepare", 2, 0)
        folk.propose(1, [1])
        drop_all(folk, "promise")
        bring(folk, "prepare", 1, 0)
        self.assertIn(("promise", 0, 1), folk.letters())

    def test_a_hand_that_knows_no_ballot_begins_with_round_one(self):
        folk = Folk(3, [0, 1, 2])
        folk.propose(2, [2])
        folk.propose(1, [1])
        bring(folk, "prepare", 2, 0)
        bring(folk, "prepare", 1, 0)
        self.assertEqual(kinds(folk).count("promise"), 1)

    def test_a_round_above_one_that_is_greater_by_its_round_alone(self):
        folk = Folk(3, [0, 1, 2])
        folk.propose(0, [0])
        drop_all(folk)
        folk.propose(0, [0])
        bring_all(folk, "prepare")
        drop_all(folk)
        folk.propose(2, [2])
        bring(folk, "prepare", 2, 1)
        self.assertIn(("promise", 1, 2), folk.letters())

    def test_a_round_above_the_last_own_offer(self):
        folk = Folk(3, [0, 1, 2])
        folk.propose(0, [0])
        bring(folk, "prepare", 0, 1)
        folk.propose(0, [0, 1])
        drop_all(folk, "promise")
        folk.come(place_of(folk, "prepare", 0, 1))
        self.assertEqual(kinds(folk).count("promise"), 1)

    def test_a_round_above_the_greater_of_both(self):
        folk = Folk(3, [0, 1, 2])
        for _ in range(3):
            folk.propose(2, [2])
        folk.propose(1, [1])
        bring(folk, "prepare", 1, 2)
        folk.propose(2, [2])
        folk.come(len(folk.letters()) - 1)
        self.assertEqual(folk.letters()[-1], ("promise", 2, 2))
        for _ in range(3):
            bring(folk, "prepare", 2, 2)
        self.assertEqual(kinds(folk).count("promise"), 2)

    def test_rounds_begin_anew_in_a_new_list(self):
        folk = Folk(2, [0, 1])
        for _ in range(4):
            folk.propose(0, [0, 1])
        folk.calm()
        self.assertEqual(folk.list_of(0), (1, [0, 1]))
        folk.propose(0, [0])
        folk.propose(1, [1])
        bring(folk, "prepare", 1, 0)
        bring(folk, "prepare", 0, 0)
        self.assertEqual(kinds(folk).count("promise"), 1)

    def test_accepts_with_a_smaller_an_equal_and_a_greater_ballot(self):
        folk = Folk(3, [0, 1, 2])
        folk.propose(0, [0])
        bring(folk, "prepare", 0, 0)
        bring(folk, "prepare", 0, 1)
        bring_all(folk, "promise")
        double(folk, "accept", 0, 1)
        bring(folk, "accept", 0, 1)
        self.assertEqual(kinds(folk).count("agree"), 1)
        bring(folk, "accept", 0, 1)
        self.assertEqual(kinds(folk).count("agree"), 2)
        self.assertIs(folk.is_still(2), False)
        double(folk, "accept", 0, 2)
        bring(folk, "accept", 0, 2)
        self.assertIs(folk.is_still(2), True)
        self.assertEqual(kinds(folk).count("agree"), 3)
        bring(folk, "prepare", 0, 2)
        self.assertEqual(kinds(folk).count("promise"), 0)
        folk.propose(1, [1])
        bring(folk, "prepare", 1, 2)
        bring(folk, "accept", 0, 2)
        self.assertEqual(kinds(folk).count("agree"), 3)

    def test_an_accept_raises_the_ballot_that_is_known(self):
        folk = Folk(3, [0, 1, 2])
        folk.propose(0, [0])
        drop_all(folk)
        folk.propose(0, [0])
        folk.propose(1, [1])
        bring(folk, "prepare", 0, 0)
        bring(folk, "prepare", 0, 1)
        bring_all(folk, "promise")
        bring(folk, "accept", 0, 2)
        self.assertIn(("agree", 2, 0), folk.letters())
        bring(folk, "prepare", 1, 2)
        self.assertEqual(kinds(folk).count("promise"), 0)


class CountingTest(unittest.TestCase):
    def test_a_promise_that_comes_twice_counts_once(self):
        folk = Folk(3, [0, 1, 2])
        folk.propose(0, [0])
        bring(folk, "prepare", 0, 1)
        double(folk, "promise")
        bring_all(folk, "promise")
        self.assertEqual(kinds(folk).count("accept"), 0)
        bring(folk, "prepare", 0, 2)
        bring(folk, "promise", 2)
        self.assertEqual(folk.letters()[1:], [("accept", 0, hand) for hand in range(3)])

    def test_a_promise_behind_enough_puts_nothing_forward_again(self):
        folk = Folk(3, [0, 1, 2])
        folk.propose(0, [0])
        bring_all(folk, "prepare")
        double(folk, "promise", 0)
        double(folk, "promise", 1)
        bring_all(folk, "promise")
        self.assertEqual(kinds(folk), ["accept"] * 3)

    def test_a_promise_that_comes_again_behind_just_enough(self):
        folk = Folk(3, [0, 1, 2])
        folk.propose(0, [0])
        bring(folk, "prepare", 0, 0)
        bring(folk, "prepare", 0, 1)
        double(folk, "promise", 0)
        double(folk, "promise", 1)
        bring_all(folk, "promise")
        self.assertEqual(folk.letters(), [("prepare", 0, 2)] + [("accept", 0, h) for h in range(3)])

    def test_a_promise_behind_enough_does_not_change_what_was_put_forward(self):
        folk = Folk(3, [0, 1, 2])
        folk.propose(2, [2])
        bring(folk, "prepare", 2, 1)
        bring(folk, "prepare", 2, 2)
        bring_all(folk, "promise")
        bring(folk, "accept", 2, 2)
        drop_all(folk)
        folk.propose(0, [0])
        drop_all(folk)
        folk.propose(0, [0])
        bring_all(folk, "prepare")
        bring(folk, "promise", 0)
        bring(folk, "promise", 1)
        bring(folk, "promise", 2)
        folk.calm()
        self.assertEqual(folk.list_of(0), (1, [0]))

    def test_an_agree_that_comes_twice_counts_once(self):
        folk = Folk(3, [0, 1, 2])
        folk.propose(0, [0])
        bring_all(folk, "prepare")
        bring_all(folk, "promise")
        double(folk, "accept", 0, 2)
        bring(folk, "accept", 0, 2)
        bring(folk, "accept", 0, 2)
        bring_all(folk, "agree")
        self.assertEqual(kinds(folk).count("enter"), 0)
        bring(folk, "accept", 0, 0)
        bring(folk, "agree")
        self.assertEqual(folk.letters(), [("accept", 0, 1)] + [("enter", 0, h) for h in range(3)])
        bring(folk, "enter", 0, 0)
        self.assertEqual(folk.witness(0), [0, 2])

    def test_an_agree_behind_enough_sends_no_enters_again(self):
        folk = Folk(3, [0, 1, 2])
        folk.propose(0, [0, 1, 2])
        for kind in ("prepare", "promise", "accept"):
            bring_all(folk, kind)
        double(folk, "agree", 0)
        bring_all(folk, "agree")
        self.assertEqual(kinds(folk), ["enter"] * 3)
        folk.calm()
        self.assertEqual(folk.witness(2), [0, 1])

    def test_an_agree_that_comes_again_behind_just_enough(self):
        folk = Folk(3, [0, 1, 2])
        folk.propose(0, [1, 2])
        bring_all(folk, "prepare")
        bring_all(folk, "promise")
        bring(folk, "accept", 0, 1)
        bring(folk, "accept", 0, 2)
        double(folk, "agree", 1)
        double(folk, "agree", 2)
        bring_all(folk, "agree")
        self.assertEqual(folk.letters(), [("accept", 0, 0)] + [("enter", 0, h) for h in range(3)])

    def test_the_witness_is_the_first_enough_and_rising(self):
        folk = Folk(5, [0, 1, 2, 3, 4])
        folk.propose(1, [0, 1])
        for kind in ("prepare", "promise", "accept"):
            bring_all(folk, kind)
        for hand in (4, 2, 0, 3, 1):
            bring(folk, "agree", hand)
        folk.calm()
        self.assertEqual(folk.witness(0), [0, 2, 4])
        self.assertEqual(folk.witness(1), [0, 2, 4])

    def test_only_the_last_offer_counts(self):
        folk = Folk(3, [0, 1, 2])
        folk.propose(0, [0])
        bring_all(folk, "prepare")
        folk.propose(0, [0, 1])
        bring_all(folk, "promise")
        self.assertEqual(kinds(folk), ["prepare"] * 3)
        folk.calm()
        self.assertEqual(folk.list_of(1), (1, [0, 1]))

    def test_agrees_to_an_earlier_offer_no_longer_count(self):
        folk = Folk(3, [0, 1, 2])
        folk.propose(0, [0])
        for kind in ("prepare", "promise", "accept"):
            bring_all(folk, kind)
        folk.propose(0, [0, 1])
        bring_all(folk, "agree")
        self.assertEqual(kinds(folk), ["prepare"] * 3)
        folk.calm()
        self.assertEqual(folk.list_of(0), (1, [0]))

    def test_enters_go_to_the_list_and_to_the_hands_put_forward(self):
        folk = Folk(6, [1, 3, 4])
        folk.propose(3, [0, 3, 5])
        for kind in ("prepare", "promise", "accept", "agree"):
            bring_all(folk, kind)
        self.assertEqual(folk.letters(), [("enter", 3, hand) for hand in (0, 1, 3, 4, 5)])


class SeveralOffersTest(unittest.TestCase):
    def half_way(self, folk, offerer, members, ballots, agreeing):
        """Let an offer be promised by some hands, and agreed to by others, and the rest be lost."""
        folk.propose(offerer, members)
        for hand in ballots:
            bring(folk, "prepare", offerer, hand)
        bring_all(folk, "promise")
        for hand in agreeing:
            bring(folk, "accept", offerer, hand)
        drop_all(folk)

    def test_what_one_hand_agreed_to_is_put_forward_again(self):
        folk = Folk(5, [0, 1, 2, 3, 4])
        self.half_way(folk, 0, [0, 1, 2], [0, 1, 2], [1])
        folk.propose(4, [2, 3, 4])
        for hand in (1, 3, 4):
            bring(folk, "prepare", 4, hand)
        bring_all(folk, "promise")
        folk.calm()
        for hand in (0, 1, 2):
            self.assertEqual(folk.list_of(hand), (1, [0, 1, 2]))
        for hand in (3, 4):
            with self.assertRaises(Outside):
                folk.list_of(hand)

    def test_by_the_greatest_of_two_ballots(self):
        for order in ((1, 3, 2), (3, 1, 2), (2, 3, 1)):
            folk = Folk(5, [0, 1, 2, 3, 4])
            self.half_way(folk, 0, [0, 1, 2], [0, 1, 2], [1])
            self.half_way(folk, 4, [2, 3, 4], [2, 3, 4], [3])
            folk.propose(2, [2])
            for hand in order:
                bring(folk, "prepare", 2, hand)
            bring_all(folk, "promise")
            folk.calm()
            for hand in (2, 3, 4):
                self.assertEqual(folk.list_of(hand), (1, [2, 3, 4]))

    def test_what_was_agreed_to_carries_its_row(self):
        folk = Folk(5, [0, 1, 2, 3, 4])
        folk.say(0, "a")
        bring(folk, "wish")
        drop_all(folk)
        self.half_way(folk, 4, [2, 3, 4], [2, 3, 4], [3])
        folk.propose(0, [0, 1])
        drop_all(folk)
        folk.propose(0, [0, 1])
        for hand in (0, 1, 3):
            bring(folk, "prepare", 0, hand)
        folk.calm()
        for hand in range(5):
            self.assertEqual(folk.past(hand), [(0, [0, 1, 2, 3, 4], [])])

    def test_an_offer_that_finds_something_agreed_by_enough(self):
        folk = Folk(3, [0, 1, 2])
        self.half_way(folk, 0, [0, 1], [0, 1], [0, 1])
        folk.fall(0)
        folk.propose(2, [2])
        folk.calm()
        self.assertEqual(folk.list_of(1), (1, [0, 1]))
        self.assertEqual(folk.past(2), [(0, [0, 1, 2], [])])

    def test_an_offer_of_which_nobody_agreed_is_forgotten(self):
        folk = Folk(3, [0, 1, 2])
        self.half_way(folk, 0, [0, 1], [0, 1], [])
        folk.propose(2, [1, 2])
        folk.propose(2, [1, 2])
        folk.calm()
        self.assertEqual(folk.list_of(2), (1, [1, 2]))

    def test_the_longest_row_among_the_promised_ones(self):
        folk = Folk(5, [0, 1, 2, 3, 4])
        for word in "abc":
            folk.say(0, word)
        bring_all(folk, "wish")
        for hand, many in ((1, 1), (2, 2)):
            for _ in range(many):
                bring(folk, "hold", 0, hand)
        drop_all(folk)
        folk.fall(0)
        folk.propose(3, [1, 2, 3])
        for hand in (1, 2, 3):
            bring(folk, "prepare", 3, hand)
        folk.calm()
        row = [(0, 0, "a"), (0, 1, "b")]
        for hand in range(1, 5):
            self.assertEqual(folk.past(hand), [(0, [0, 1, 2, 3, 4], row)])

    def test_a_row_behind_enough_promises_does_not_count(self):
        folk = Folk(3, [0, 1, 2])
        folk.say(0, "a")
        bring(folk, "wish")
        drop_all(folk)
        folk.propose(2, [0, 1, 2])
        bring_all(folk, "prepare")
        bring(folk, "promise", 1)
        bring(folk, "promise", 2)
        folk.calm()
        for hand in range(3):
            self.assertEqual(folk.past(hand), [(0, [0, 1, 2], [])])

    def test_two_offerers_by_turns(self):
        folk = Folk(3, [0, 1, 2])
        folk.propose(0, [0, 1])
        bring_all(folk, "prepare")
        folk.propose(2, [1, 2])
        bring_all(folk, "prepare")
        drop_all(folk, "promise")
        folk.propose(0, [0, 1])
        folk.calm()
        self.assertEqual(folk.list_of(0), (1, [0, 1]))
        self.assertEqual(folk.list_of(1), (1, [0, 1]))

    def test_enters_of_two_offerers_bring_about_one_list(self):
        folk = Folk(3, [0, 1, 2])
        self.half_way(folk, 0, [0, 1, 2], [0, 1], [1])
        folk.propose(2, [2])
        bring(folk, "prepare", 2, 1)
        bring(folk, "prepare", 2, 2)
        bring_all(folk, "promise")
        bring(folk, "accept", 2, 1)
        bring(folk, "accept", 2, 2)
        bring_all(folk, "agree")
        drop_all(folk, "accept")
        bring(folk, "enter", 2, 1)
        drop_all(folk)
        folk.propose(0, [0])
        folk.propose(0, [0])
        folk.calm()
        self.assertEqual([folk.list_of(hand) for hand in range(3)], [(1, [0, 1, 2])] * 3)
        self.assertEqual(folk.witness(1), [1, 2])
        self.assertEqual(folk.witness(0), [0, 2])


class EnterTest(unittest.TestCase):
    def test_a_letter_of_another_lists_number_does_nothing(self):
        folk = Folk(3, [0, 1, 2])
        folk.say(1, "old")
        folk.propose(0, [0, 1, 2])
        while "enter" in kinds(folk) or len(folk.letters()) > 1:
            folk.come(1)
        self.assertEqual(folk.letters(), [("wish", 1, 0)])
        self.assertEqual(folk.list_of(0), (1, [0, 1, 2]))
        folk.double(0)
        folk.come(0)
        self.assertEqual(folk.letters(), [("wish", 1, 0)])
        self.assertEqual(folk.calm(), 1)
        self.assertEqual(folk.taken(0), [])

    def test_a_letter_of_the_next_list_comes_ahead_of_the_enter(self):
        folk = Folk(3, [0, 1, 2])
        folk.propose(0, [0, 1, 2])
        for kind in ("prepare", "promise", "accept", "agree"):
            bring_all(folk, kind)
        bring(folk, "enter", 0, 1)
        folk.say(1, "new")
        bring(folk, "wish", 1, 0)
        self.assertEqual(kinds(folk), ["enter", "enter"])
        folk.calm()
        self.assertEqual(folk.taken(0), [])

    def test_a_letter_of_the_next_list_to_a_hand_that_is_not_still(self):
        folk = Folk(3, [0, 1, 2])
        folk.propose(0, [0, 1, 2])
        for kind in ("prepare", "promise", "accept", "agree", "enter"):
            for hand in (0, 1):
                if kind in ("promise", "agree"):
                    bring(folk, kind, hand)
                else:
                    bring(folk, kind, 0, hand)
        drop_all(folk)
        self.assertEqual(folk.list_of(0), (1, [0, 1, 2]))
        self.assertEqual(folk.list_of(2), (0, [0, 1, 2]))
        self.assertIs(folk.is_still(2), False)
        folk.say(1, "new")
        bring(folk, "wish")
        folk.propose(1, [1])
        for kind in ("hold", "prepare"):
            bring(folk, kind, None, 2)
        self.assertEqual(folk.letters(), [("hold", 0, 1), ("prepare", 1, 0), ("prepare", 1, 1)])

    def test_old_letters_of_each_kind_do_nothing_in_the_next_list(self):
        folk = Folk(3, [0, 1, 2])
        folk.say(1, "a")
        folk.say(2, "b")
        bring(folk, "wish")
        bring(folk, "hold", 0, 1)
        folk.propose(1, [0])
        bring(folk, "prepare", 1, 1)
        folk.propose(2, [0, 1, 2])
        old = len(folk.letters()) - 3
        while len(folk.letters()) > old:
            folk.come(old)
        self.assertEqual(folk.list_of(0)[0], 1)
        self.assertEqual(sorted(set(kinds(folk))), ["have", "hold", "prepare", "promise", "wish"])
        self.assertEqual(folk.calm(), old)
        for hand in range(3):
            self.assertEqual(folk.taken(hand), [])
            self.assertIs(folk.is_still(hand), False)

    def test_a_letter_to_a_hand_in_no_list_does_nothing(self):
        folk = Folk(3, [0, 1, 2])
        folk.say(1, "old")
        folk.propose(1, [1, 2])
        while len(folk.letters()) > 1:
            folk.come(1)
        self.assertEqual(folk.calm(), 1)
        with self.assertRaises(Outside):
            folk.taken(0)

    def test_the_same_enter_twice(self):
        folk = Folk(3, [0, 1])
        folk.propose(0, [0, 2])
        for kind in ("prepare", "promise", "accept", "agree"):
            bring_all(folk, kind)
        for place in range(3):
            folk.double(place)
        folk.calm()
        self.assertEqual(folk.list_of(2), (1, [0, 2]))
        self.assertEqual(folk.past(0), [(0, [0, 1], [])])
        self.assertEqual(folk.past(1), [(0, [0, 1], [])])

    def test_an_enter_does_not_wipe_the_list_in_which_a_hand_is(self):
        folk = Folk(2, [0, 1])
        move_to(folk, 0, [0, 1])
        folk.say(1, "a")
        folk.calm()
        folk.show(1, 0)
        folk.show(1, 1)
        folk.calm()
        self.assertEqual(folk.taken(0), [(1, 0, "a")])
        self.assertEqual(folk.taken(1), [(1, 0, "a")])
        self.assertEqual(len(folk.past(0)), 1)

    def test_an_enter_two_ahead_does_nothing(self):
        folk = Folk(4, [0, 1, 2])
        for _ in range(2):
            folk.propose(0, [0, 1, 2, 3])
            while folk.letters():
                if folk.letters()[0][2] == 2:
                    folk.lose(0)
                else:
                    folk.come(0)
        self.assertEqual(folk.list_of(0), (2, [0, 1, 2, 3]))
        folk.show(0, 2)
        folk.calm()
        self.assertEqual(folk.list_of(2), (0, [0, 1, 2]))
        self.assertEqual(folk.past(2), [])

    def test_show_brings_on_a_hand_that_missed_its_enter(self):
        folk = Folk(3, [0, 1, 2])
        folk.say(0, "a")
        folk.calm()
        folk.propose(0, [0, 1])
        for kind in ("prepare", "promise", "accept", "agree"):
            bring_all(folk, kind)
        bring(folk, "enter", 0, 0)
        drop_all(folk)
        self.assertIsNone(folk.show(0, 1))
        folk.show(0, 2)
        self.assertEqual(folk.letters(), [("enter", 0, 1), ("enter", 0, 2)])
        folk.calm()
        self.assertEqual(folk.list_of(1), (1, [0, 1]))
        self.assertEqual(folk.witness(1), [0, 1])
        self.assertEqual(folk.past(2), [(0, [0, 1, 2], [(0, 0, "a")])])
        with self.assertRaises(Outside):
            folk.list_of(2)

    def test_show_sends_the_same_enter_whatever_came_since(self):
        folk = Folk(3, [0, 1, 2])
        folk.say(2, "a")
        folk.calm()
        folk.propose(0, [0, 1, 2])
        for kind in ("prepare", "promise", "accept", "agree"):
            bring_all(folk, kind)
        bring(folk, "enter", 0, 0)
        bring(folk, "enter", 0, 1)
        drop_all(folk)
        folk.say(1, "b")
        folk.calm()
        folk.show(1, 2)
        folk.calm()
        self.assertEqual(folk.list_of(2), (1, [0, 1, 2]))
        self.assertEqual(folk.past(2), [(0, [0, 1, 2], [(2, 0, "a")])])
        self.assertEqual(folk.taken(2), [])
        folk.press(0)
        folk.calm()
        self.assertEqual(folk.taken(2), [(1, 0, "b")])

    def test_joins_a_list_though_others_went_on(self):
        folk = Folk(3, [0, 1])
        folk.propose(0, [0, 1, 2])
        while folk.letters() != [("enter", 0, 2)]:
            folk.come(0 if folk.letters()[0] != ("enter", 0, 2) else 1)
        folk.propose(0, [0, 1, 2])
        late = folk.letters().index(("enter", 0, 2))
        self.assertEqual(late, 0)
        while len(folk.letters()) > 1:
            folk.come(1)
        self.assertEqual(folk.list_of(0), (2, [0, 1, 2]))
        self.assertEqual(folk.list_of(2), (2, [0, 1, 2]))
        folk.come(0)
        self.assertEqual(folk.list_of(2), (2, [0, 1, 2]))
        self.assertEqual(folk.past(2), [])

    def test_a_late_enter_of_a_list_in_which_a_hand_was(self):
        for turns in (1, 2):
            folk = Folk(3, [0, 1])
            folk.propose(0, [0, 1, 2])
            for kind in ("prepare", "promise", "accept", "agree"):
                bring_all(folk, kind)
            double(folk, "enter", 0, 2)
            for hand in (0, 1, 2):
                bring(folk, "enter", 0, hand)
            for turn in range(turns):
                folk.propose(0, [0, 1])
                while len(folk.letters()) > 1:
                    folk.come(1)
            self.assertEqual(folk.past(2), [(1, [0, 1, 2], [])])
            self.assertEqual(folk.letters(), [("enter", 0, 2)])
            folk.come(0)
            with self.assertRaises(Outside):
                folk.list_of(2)
            self.assertEqual(folk.past(2), [(1, [0, 1, 2], [])])

    def test_a_late_enter_of_a_list_ahead_of_one_in_which_a_hand_was(self):
        folk = Folk(3, [0, 1])
        folk.propose(0, [0, 1, 2])
        for kind in ("prepare", "promise", "accept", "agree"):
            bring_all(folk, kind)
        bring(folk, "enter", 0, 0)
        bring(folk, "enter", 0, 1)
        for members in ([0, 1, 2], [0, 1]):
            folk.propose(0, members)
            while len(folk.letters()) > 1:
                folk.come(1)
        self.assertEqual(folk.past(2), [(2, [0, 1, 2], [])])
        self.assertEqual(folk.letters(), [("enter", 0, 2)])
        folk.come(0)
        with self.assertRaises(Outside):
            folk.list_of(2)

    def test_a_hand_in_no_list_and_not_one_of_the_hands(self):
        folk = Folk(3, [0, 1])
        move_to(folk, 0, [0, 1])
        folk.show(0, 2)
        folk.calm()
        with self.assertRaises(Outside):
            folk.list_of(2)
        self.assertEqual(folk.past(2), [])

    def test_leaves_and_joins_again(self):
        folk = Folk(3, [0, 1, 2])
        folk.say(2, "a")
        folk.calm()
        move_to(folk, 0, [0, 1])
        folk.say(1, "b")
        folk.calm()
        move_to(folk, 1, [0, 1, 2])
        folk.say(2, "c")
        folk.calm()
        for hand in range(3):
            self.assertEqual(folk.list_of(hand), (2, [0, 1, 2]))
            self.assertEqual(folk.taken(hand), [(2, 1, "c")])
        self.assertEqual(folk.past(2), [(0, [0, 1, 2], [(2, 0, "a")])])
        self.assertEqual(folk.past(0), [(0, [0, 1, 2], [(2, 0, "a")]), (1, [0, 1], [(1, 0, "b")])])
        move_to(folk, 2, [2])
        self.assertEqual([number for number, _, _ in folk.past(2)], [0, 2])

    def test_an_enter_to_a_fallen_hand_does_nothing(self):
        folk = Folk(3, [0, 1])
        folk.fall(2)
        move_to(folk, 0, [0, 1, 2])
        with self.assertRaises(Outside):
            folk.list_of(2)
        self.assertEqual(folk.list_of(0), (1, [0, 1, 2]))

    def test_a_still_hand_is_still_till_it_is_in_another_list(self):
        folk = Folk(3, [0, 1, 2])
        folk.propose(0, [0, 1, 2])
        for kind in ("prepare", "promise", "accept", "agree"):
            bring_all(folk, kind)
            self.assertEqual([folk.is_still(hand) for hand in range(3)], [True] * 3)
        bring(folk, "enter", 0, 1)
        self.assertEqual([folk.is_still(hand) for hand in range(3)], [True, False, True])


if __name__ == "__main__":
    unittest.main()
