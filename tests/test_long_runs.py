"""Promises 7 to 11 in long runs: what points 3 to 10 tell, and what point 11 says holds.

In each run letters come at many places, are lost and doubled, hands say words, press, show,
fall and offer hands, several at once. Behind each deed the folk is compared, hand by hand and
letter by letter, with the model, or what holds is looked at.
"""

import copy
import unittest

from folklist.errors import Outside
from folklist.folk import Folk
from tests.helpers import Draw, told
from tests.model import Model

# How often each deed is drawn, of the sum of all.
ONE_LIST = {"come": 40, "say": 12, "lose": 5, "double": 5, "press": 2, "fall": 1}
CHANGING = {"come": 60, "say": 6, "lose": 3, "double": 5, "press": 2, "propose": 4, "show": 3}
STORMY = {"come": 60, "say": 5, "lose": 14, "double": 14, "press": 4, "propose": 8, "show": 4}


class Run:
    """One folk, and what is drawn for it."""

    def __init__(self, seed, weights, many=None, falling=0):
        self.draw = Draw(seed)
        self.many = many or 1 + self.draw.below(9)
        self.first = self.draw.some_of(self.many)
        self.folk = Folk(self.many, self.first)
        self.names = [name for name, weight in weights.items() for _ in range(weight)]
        self.falling = falling
        self.said = {}
        self.counts = {}

    def can_act(self):
        return [hand for hand in range(self.many) if self.folk.stands(hand) and self.seat(hand)]

    def seat(self, hand):
        try:
            return self.folk.list_of(hand)
        except Outside:
            return None

    def next_deed(self):
        """Draw a deed that is not refused, its name and what it is handed, or None."""
        name = self.draw.one_of(self.names)
        under_way = len(self.folk.letters())
        if name in ("come", "lose", "double"):
            if under_way == 0 or (name == "double" and under_way > 60):
                return None
            # Mostly an early letter, so that offers get somewhere.
            reach = under_way if self.draw.below(3) == 0 else min(under_way, 4)
            return (name, self.draw.below(reach))
        if name == "fall":
            return self.next_fall()
        acting = self.can_act()
        if name == "press":
            acting = [hand for hand in acting if self.seat(hand)[1][0] == hand]
        if name == "show":
            acting = [hand for hand in acting if self.seat(hand)[0] > 0]
        if not acting:
            return None
        hand = self.draw.one_of(acting)
        handed = {"say": [self.draw.one_of(["a", "b", ""])], "press": [],
                  "propose": [self.draw.some_of(self.many)],
                  "show": [self.draw.below(self.many)]}[name]
        return (name, hand, *handed)

    def next_fall(self):
        standing = [hand for hand in range(self.many) if self.folk.stands(hand)]
        if self.falling == 0 or len(standing) < 2:
            return None
        self.falling -= 1
        return ("fall", self.draw.one_of(standing))

    def do(self, deed):
        name, *handed = deed
        if name == "say":
            self.note(handed[0], handed[1])
        return getattr(self.folk, name)(*handed)

    def note(self, hand, word):
        """Keep what was said in which list."""
        number = self.seat(hand)[0]
        count = self.counts.get(hand, 0)
        self.counts[hand] = count + 1
        self.said.setdefault(number, set()).add((hand, count, word))


class AgainstTheModelTest(unittest.TestCase):
    """Hand by hand and letter by letter, behind every deed."""

    def run_beside_model(self, seed, weights, falling, deeds):
        run = Run(seed, weights, falling=falling)
        model = Model(run.many, run.first)
        self.assertEqual(told(run.folk), model.told())
        for step in range(deeds):
            deed = run.next_deed()
            if deed is None:
                continue
            self.assertIsNone(run.do(deed))
            getattr(model, deed[0])(*deed[1:])
            if told(run.folk) != model.told():
                self.assertEqual(told(run.folk), model.told(), (seed, step, deed))
        self.assertEqual(run.folk.calm(), model.calm())
        self.assertEqual(told(run.folk), model.told(), seed)
        return run.folk

    def test_messages_within_one_list(self):
        for seed in range(40):
            self.run_beside_model(seed, ONE_LIST, 2, 250)

    def test_lists_that_change(self):
        went_on = 0
        for seed in range(120):
            folk = self.run_beside_model(seed, CHANGING, 0, 300)
            went_on += max(len(folk.past(hand)) for hand in range(folk.many))
        self.assertGreater(went_on, 300)

    def test_lists_that_change_while_hands_fall(self):
        weights = dict(CHANGING, fall=1)
        for seed in range(80):
            self.run_beside_model(seed, weights, 3, 300)

    def test_much_lost_and_doubled(self):
        weights = dict(STORMY, fall=1)
        for seed in range(120):
            self.run_beside_model(seed, weights, 2, 300)


class WhatHoldsTest(unittest.TestCase):
    """Point 11, behind each deed."""

    def check(self, run):
        folk = run.folk
        hands_of, took_of, behind_of = {}, {}, {}
        for hand in range(folk.many):
            for number, members, messages in folk.past(hand):
                self.assertEqual(hands_of.setdefault(number, members), members)
                self.assertEqual(behind_of.setdefault(number, messages), messages)
                took_of.setdefault(number, []).append(messages)
            seat = run.seat(hand)
            if seat is not None:
                self.assertEqual(hands_of.setdefault(seat[0], seat[1]), seat[1])
                self.assertIn(hand, seat[1])
                took_of.setdefault(seat[0], []).append(folk.taken(hand))
        for number, rows in took_of.items():
            whole = max(rows, key=len)
            for row in rows:
                self.assertEqual(row, whole[:len(row)])
            self.assertEqual(len(set(whole)), len(whole))
            self.assertLessEqual(set(whole), run.said.get(number, set()))

    def check_growth(self, run, before):
        """What a hand took stays taken, and the lists from which it went on stay behind it."""
        for hand in range(run.many):
            seat, taken, past = before[hand]
            self.assertEqual(run.folk.past(hand)[:len(past)], past)
            if seat is None:
                continue
            if run.seat(hand) == seat:
                self.assertEqual(run.folk.taken(hand)[:len(taken)], taken)
            else:
                number, members, messages = run.folk.past(hand)[len(past)]
                self.assertEqual((number, members), seat)
                self.assertEqual(messages[:len(taken)], taken)

    def now(self, run):
        rows = []
        for hand in range(run.many):
            seat = run.seat(hand)
            rows.append((seat, [] if seat is None else run.folk.taken(hand), run.folk.past(hand)))
        return rows

    def run_and_check(self, seed, weights, falling, deeds):
        run = Run(seed, weights, falling=falling)
        for _ in range(deeds):
            deed = run.next_deed()
            if deed is None:
                continue
            before = self.now(run)
            run.do(deed)
            self.check(run)
            self.check_growth(run, before)
        run.folk.calm()
        self.check(run)
        return run

    def test_messages_within_one_list(self):
        for seed in range(1000, 1040):
            self.run_and_check(seed, ONE_LIST, 2, 200)

    def test_several_offers_at_once(self):
        took = 0
        for seed in range(1000, 1100):
            run = self.run_and_check(seed, CHANGING, 0, 300)
            for hand in range(run.many):
                took += sum(len(messages) for _, _, messages in run.folk.past(hand))
        self.assertGreater(took, 500)

    def test_several_offers_while_hands_fall_and_letters_are_lost(self):
        for seed in range(1000, 1100):
            self.run_and_check(seed, dict(STORMY, fall=1), 2, 300)


class ToldListsTest(unittest.TestCase):
    """Lists that were told stay as they were told, and are of no weight for the folk."""

    def spoil(self, folk):
        letters, hands = told(folk)
        folk.letters().append(("wish", 0, 0))
        letters.clear()
        for _, (seat, taken, _, witness), past in hands:
            if seat != "outside":
                seat[1].append(99)
                taken.append("spoiled")
                witness.append(99)
            for _, members, messages in past:
                members.clear()
                messages.append("spoiled")
            past.clear()

    def test_told_lists_stay_as_they_were_told(self):
        for seed in range(2000, 2020):
            run = Run(seed, CHANGING)
            kept = []
            for step in range(200):
                deed = run.next_deed()
                if deed is not None:
                    run.do(deed)
                if step % 10 == 0:
                    one = told(run.folk)
                    kept.append((one, copy.deepcopy(one)))
            run.folk.calm()
            for one, was in kept:
                self.assertEqual(one, was)

    def test_told_lists_may_be_changed(self):
        for seed in range(2000, 2030):
            run = Run(seed, CHANGING)
            model = Model(run.many, run.first)
            for _ in range(200):
                deed = run.next_deed()
                if deed is None:
                    continue
                run.do(deed)
                getattr(model, deed[0])(*deed[1:])
                self.spoil(run.folk)
                self.assertEqual(told(run.folk), model.told())

    def test_each_told_list_may_be_changed(self):
        folk = Folk(3, [0, 1, 2])
        folk.say(0, "a")
        folk.calm()
        folk.propose(0, [0, 1])
        folk.calm()
        folk.say(1, "b")
        folk.calm()
        past = [(0, [0, 1, 2], [(0, 0, "a")])]
        folk.past(0)[0][1].append(9)
        folk.past(0)[0][2].append((9, 9, "x"))
        folk.past(0).clear()
        folk.witness(0).append(9)
        folk.list_of(0)[1].append(9)
        folk.taken(0).clear()
        for hand in range(3):
            self.assertEqual(folk.past(hand), past)
        for hand in (0, 1):
            self.assertEqual(folk.witness(hand), [0, 1])
            self.assertEqual(folk.list_of(hand), (1, [0, 1]))
            self.assertEqual(folk.taken(hand), [(1, 0, "b")])

    def test_lists_handed_in_may_be_changed_later(self):
        first = [0, 1, 2]
        folk = Folk(4, first)
        first.clear()
        offered = [0, 1, 3]
        folk.propose(0, offered)
        folk.come(0)
        offered.reverse()
        self.assertEqual(folk.calm(), 13 + 2)
        offered.clear()
        for hand in (0, 1, 3):
            self.assertEqual(folk.list_of(hand), (1, [0, 1, 3]))
        self.assertEqual(folk.past(2), [(0, [0, 1, 2], [])])

    def test_calm_counts_all_that_came(self):
        for many in range(1, 10):
            folk = Folk(many, list(range(many)))
            folk.say(0, "a")
            folk.propose(0, [0])
            model = Model(many, list(range(many)))
            model.say(0, "a")
            model.propose(0, [0])
            self.assertEqual(folk.calm(), model.calm())
            self.assertEqual(told(folk), model.told())


if __name__ == "__main__":
    unittest.main()
