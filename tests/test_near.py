"""Stretches, their lengths, and the shortest that has one of each list [10], [11]."""

import copy
import itertools
import unittest

from pagenook.near import shortest


def shortest_by_trial(rows, places):
    """Tries every stretch of a text with so many places, the short ones first."""
    for length in range(1, places + 1):
        for start in range(places - length + 1):
            stretch = range(start, start + length)
            if all(any(place in stretch for place in row) for row in rows):
                return length
    return None


class OneList(unittest.TestCase):
    def test_one_place_is_a_stretch_of_one(self):
        for row in [[0], [7], [0, 1, 2], [3, 900], [10**99, 10**100 - 1]]:
            self.assertEqual(shortest([row]), 1)

    def test_an_empty_list(self):
        self.assertIsNone(shortest([[]]))


class SeveralLists(unittest.TestCase):
    def test_both_ends_count(self):
        self.assertEqual(shortest([[0], [1]]), 2)
        self.assertEqual(shortest([[4], [9]]), 6)
        self.assertEqual(shortest([[0], [5], [2]]), 6)

    def test_order_of_the_lists_does_not_count(self):
        rows = [[0, 20], [7, 31], [12, 25]]
        for mixed in itertools.permutations(rows):
            self.assertEqual(shortest(list(mixed)), 12)

    def test_the_shortest_may_lie_anywhere(self):
        self.assertEqual(shortest([[0, 50, 100], [1, 60, 120]]), 2)
        self.assertEqual(shortest([[0, 50, 100], [10, 51, 120]]), 2)
        self.assertEqual(shortest([[0, 50, 100], [10, 60, 101]]), 2)
        self.assertEqual(shortest([[0, 50, 100], [10, 60, 99]]), 2)

    def test_a_short_one_is_not_lost_to_a_later_one(self):
        self.assertEqual(shortest([[0, 10, 30], [1, 20], [2, 40]]), 3)

    def test_a_list_with_its_own_places_between(self):
        self.assertEqual(shortest([[0, 1, 2, 3], [9]]), 7)
        self.assertEqual(shortest([[0], [6, 7, 8, 9]]), 7)

    def test_the_same_place_in_two_lists(self):
        self.assertEqual(shortest([[5], [5]]), 1)
        self.assertEqual(shortest([[0, 5], [5, 9], [2, 5]]), 1)
        self.assertEqual(shortest([[5], [5], [7]]), 3)
        self.assertEqual(shortest([[5], [3], [5]]), 3)

    def test_the_same_list_several_times(self):
        row = [2, 4, 8]
        self.assertEqual(shortest([row, row, row]), 1)

    def test_an_empty_list_among_them(self):
        for rows in [[[], [1]], [[1], []], [[1], [], [1]], [[], []], [[0, 1]] * 12 + [[]]]:
            self.assertIsNone(shortest(rows))

    def test_every_few_lists_of_few_places(self):
        lists = [
            list(row) for number in range(6) for row in itertools.combinations(range(5), number)
        ]
        for number in [1, 2, 3]:
            for rows in itertools.product(lists, repeat=number):
                self.assertEqual(shortest(list(rows)), shortest_by_trial(rows, 5), rows)


class ManyListsAndPlaces(unittest.TestCase):
    def test_up_to_thirteen_lists_and_beyond(self):
        for number in range(1, 17):
            self.assertEqual(shortest([[3 * k] for k in range(number)]), 3 * number - 2)
            self.assertEqual(shortest([[3 * k, 1000 - k] for k in range(number)]), number)

    def test_places_far_apart(self):
        self.assertEqual(shortest([[0], [10**99]]), 10**99 + 1)
        self.assertEqual(shortest([[0, 10**50], [10**50 + 3, 10**99]]), 4)

    def test_places_of_a_hundred_figures(self):
        last = 10**100 - 1
        self.assertEqual(shortest([[0], [last]]), 10**100)
        self.assertEqual(shortest([[last - 9], [last]]), 10)
        self.assertEqual(shortest([[0, last - 1], [10**60, last]]), 2)

    def test_places_beyond_a_hundred_figures(self):
        self.assertEqual(shortest([[1], [10**130]]), 10**130)

    def test_many_places_in_each_list(self):
        rows = [[1000 * step + 7 * k for step in range(5000)] for k in range(13)]
        self.assertEqual(shortest(rows), 85)
        closer = [row + [10**40 + 2 * k] for k, row in enumerate(rows)]
        self.assertEqual(shortest(closer), 25)

    def test_many_places_in_one_list_alone(self):
        self.assertEqual(shortest([list(range(0, 200000, 2)), [77777], [77790]]), 14)


class WhatIsHandedInAndOut(unittest.TestCase):
    def test_nothing_that_is_handed_in_is_changed(self):
        for rows in [[[0]], [[]], [[1, 5], []], [[4, 9], [1, 5, 9], [2, 3]], [[10**99], [0, 10**99 + 4]]]:
            ahead = copy.deepcopy(rows)
            own_lists = list(rows)
            shortest(rows)
            self.assertEqual(rows, ahead)
            self.assertTrue(all(row is own for row, own in zip(rows, own_lists)))

    def test_asked_again_the_answer_is_the_same(self):
        rows = [[4, 90], [1, 50, 99], [2, 30]]
        self.assertEqual([shortest(rows), shortest(rows)], [4, 4])

    def test_the_answer_is_a_whole_number(self):
        for rows in [[[0]], [[3], [3]], [[0], [10**99]]]:
            self.assertIs(type(shortest(rows)), int)


if __name__ == "__main__":
    unittest.main()
