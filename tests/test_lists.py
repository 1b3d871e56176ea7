"""Promise 1: enough, is_list, longest."""

import unittest

from folklist.lists import enough, is_list, longest

NO_LISTS = [None, True, False, 0, 3, "", "01", (0, 1), (), {0: 1}, {0}, b"\x00", 1.5, range(2)]
NO_HANDS = [None, True, False, "0", (0,), [0], 0.0, b"0", {}]


class EnoughTest(unittest.TestCase):
    def test_more_than_half_of_each_size(self):
        told = [enough(list(range(many))) for many in range(1, 10)]
        self.assertEqual(told, [1, 2, 2, 3, 3, 4, 4, 5, 5])

    def test_counts_hands_and_not_their_numbers(self):
        members = [2, 7, 8]
        self.assertEqual(enough(members), 2)
        self.assertEqual(members, [2, 7, 8])


class IsListTest(unittest.TestCase):
    def test_lists(self):
        for members in ([0], [8], [0, 1], [1, 4, 8], list(range(9))):
            self.assertIs(is_list(members, 9), True, members)

    def test_not_rising(self):
        for members in ([1, 0], [0, 0], [0, 2, 2], [0, 3, 1], [4, 4]):
            self.assertIs(is_list(members, 9), False, members)

    def test_hands_that_are_not_there(self):
        for members in ([3], [0, 3], [-1], [-1, 0], [-2, 1], [0, 10 ** 30], [-10 ** 5000]):
            self.assertIs(is_list(members, 3), False)
        self.assertIs(is_list([2], 3), True)
        self.assertIs(is_list([0], 1), True)
        self.assertIs(is_list([1], 1), False)

    def test_empty(self):
        self.assertIs(is_list([], 9), False)

    def test_other_kinds(self):
        for thing in NO_LISTS:
            self.assertIs(is_list(thing, 9), False, thing)
        for thing in NO_HANDS:
            self.assertIs(is_list([thing], 9), False, thing)
            self.assertIs(is_list([0, thing], 9), False, thing)
            self.assertIs(is_list([thing, 5], 9), False, thing)

    def test_true_is_no_number_of_hands(self):
        self.assertIs(is_list([0], True), False)
        self.assertIs(is_list([0], None), False)
        self.assertIs(is_list([0], 0), False)

    def test_stays_as_it_was(self):
        members = [0, 5, 3]
        is_list(members, 9)
        self.assertEqual(members, [0, 5, 3])


class LongestTest(unittest.TestCase):
    def test_longest(self):
        self.assertEqual(longest([[1], [1, 2, 3], [1, 2]]), [1, 2, 3])
        self.assertEqual(longest([[1, 2, 3]]), [1, 2, 3])

    def test_first_of_several_as_long(self):
        self.assertEqual(longest([[1], [2, 3], [4, 5], [6]]), [2, 3])
        self.assertEqual(longest([["b"], ["a"]]), ["b"])

    def test_no_rows_and_empty_rows(self):
        self.assertEqual(longest([]), [])
        self.assertEqual(longest([[], []]), [])

    def test_a_list_of_its_own(self):
        rows = [[(0, 0, "a")], [], [(0, 0, "a"), (1, 0, "b")]]
        best = longest(rows)
        best.append("more")
        self.assertEqual(rows, [[(0, 0, "a")], [], [(0, 0, "a"), (1, 0, "b")]])
        one = [[]]
        longest(one).append("more")
        self.assertEqual(one, [[]])


if __name__ == "__main__":
    unittest.main()
