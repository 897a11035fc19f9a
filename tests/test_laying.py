"""Points 1 to 6: cables, which is before which, laying."""

import unittest

from mastline.laying import in_turn, laid, total

import reckoning
from reckoning import LONG

# A square with both diagonals.
SQUARE = [(0, 1, 4), (1, 2, 3), (2, 3, 2), (3, 0, 5), (0, 2, 1), (1, 3, 6)]


class InTurn(unittest.TestCase):
    def test_shorter_ones_are_before(self):
        self.assertEqual(in_turn(SQUARE), [4, 2, 1, 0, 3, 5])

    def test_of_equal_length_the_lesser_place_is_before(self):
        self.assertEqual(in_turn([(2, 1, 7), (0, 1, 7), (1, 0, 3), (0, 0, 7), (1, 2, 3)]), [2, 4, 0, 1, 3])

    def test_the_masts_do_not_count(self):
        self.assertEqual(in_turn([(9, 9, 1), (0, 0, 1), (5, 1, 0), (0, 5, 0)]), [2, 3, 0, 1])

    def test_no_cables(self):
        self.assertEqual(in_turn([]), [])

    def test_nought_and_very_long(self):
        self.assertEqual(in_turn([(0, 1, 10 * LONG - 1), (0, 1, LONG), (0, 1, 0), (0, 1, LONG + 1)]), [2, 1, 3, 0])

    def test_lengths_are_not_compared_as_texts(self):
        self.assertEqual(in_turn([(0, 1, 10), (0, 1, 9), (0, 1, 100)]), [1, 0, 2])

    def test_each_is_before_all_behind_it(self):
        for count, cables in reckoning.all_inputs():
            turns = in_turn(cables)
            self.assertIs(type(turns), list)
            self.assertEqual(sorted(turns), list(range(len(cables))))
            for place, behind in zip(turns, turns[1:]):
                self.assertTrue(reckoning.is_before(cables, place, behind), cables)


class Laid(unittest.TestCase):
    def test_square(self):
        self.assertEqual(laid(4, SQUARE), [1, 2, 4])
        self.assertEqual(total(4, SQUARE), 6)

    def test_least_place_first_whatever_the_lengths(self):
        self.assertEqual(laid(4, [(0, 1, 9), (1, 2, 5), (2, 3, 1)]), [0, 1, 2])

    def test_no_masts(self):
        self.assertEqual(laid(0, []), [])
        self.assertEqual(total(0, []), 0)

    def test_no_cables(self):
        self.assertEqual(laid(5, []), [])
        self.assertEqual(total(5, []), 0)

    def test_a_mast_with_itself_is_left_out(self):
        self.assertEqual(laid(2, [(0, 0, 0), (1, 1, 1), (0, 1, 2), (0, 0, 3)]), [2])
        self.assertEqual(total(2, [(0, 0, 0), (1, 1, 1), (0, 1, 2), (0, 0, 3)]), 2)
        self.assertEqual(laid(1, [(0, 0, 0)]), [])

    def test_the_same_two_masts_named_either_way_round(self):
        self.assertEqual(laid(2, [(0, 1, 4), (1, 0, 4), (0, 1, 4)]), [0])
        self.assertEqual(laid(2, [(1, 0, 4), (0, 1, 4)]), [0])
        self.assertEqual(laid(2, [(0, 1, 4), (1, 0, 3), (0, 1, 3)]), [1])

    def test_of_a_ring_of_equal_lengths_the_greatest_place_is_left_out(self):
        self.assertEqual(laid(3, [(0, 1, 7), (1, 2, 7), (2, 0, 7)]), [0, 1])
        self.assertEqual(laid(3, [(2, 0, 7), (2, 1, 7), (0, 1, 7)]), [0, 1])

    def test_length_nought_is_laid_only_where_it_joins(self):
        self.assertEqual(laid(3, [(0, 1, 0), (1, 2, 0), (2, 0, 0)]), [0, 1])
        self.assertEqual(total(3, [(0, 1, 0), (1, 2, 0), (2, 0, 0)]), 0)

    def test_very_long(self):
        cables = [(0, 1, LONG + 1), (1, 2, LONG), (2, 0, LONG + 2)]
        self.assertEqual(laid(3, cables), [0, 1])
        self.assertEqual(total(3, cables), 2 * LONG + 1)

    def test_masts_that_no_cable_reaches(self):
        cables = [(5, 3, 2), (3, 5, 1), (0, 1, 9)]
        self.assertEqual(laid(6, cables), [1, 2])
        self.assertEqual(total(6, cables), 10)

    def test_a_hundred_masts_in_one_row(self):
        count, cables = reckoning.row_of_masts(100)
        self.assertEqual(laid(count, cables), list(range(99)))
        self.assertEqual(total(count, cables), sum(range(2, 101)))


class AgainstAnotherReckoning(unittest.TestCase):
    def test_laid_by_the_words_of_point_5(self):
        for count, cables in reckoning.all_inputs():
            if len(cables) <= 100:
                self.assertEqual(laid(count, cables), reckoning.laid_by_the_words(cables), (count, cables))

    def test_the_same_masts_are_joined(self):
        for count, cables in reckoning.all_inputs():
            asked = reckoning.joined(count, cables, range(len(cables)))
            self.assertEqual(reckoning.joined(count, cables, laid(count, cables)), asked, (count, cables))

    def test_no_ring(self):
        for count, cables in reckoning.all_inputs():
            places = laid(count, cables)
            for place in places:
                rest = [p for p in places if p != place]
                one, other = cables[place][:2]
                self.assertNotIn(other, reckoning.reached(cables, rest, one), (count, cables))

    def test_no_choice_is_shorter_together(self):
        for count, cables in reckoning.all_inputs():
            if len(cables) <= 8:
                self.assertEqual(total(count, cables), reckoning.least_together(count, cables), (count, cables))

    def test_total_is_the_sum_of_the_laid_ones(self):
        for count, cables in reckoning.all_inputs():
            answer = total(count, cables)
            self.assertIs(type(answer), int)
            self.assertEqual(answer, sum(cables[place][2] for place in laid(count, cables)))

    def test_a_list_from_the_least_to_the_greatest(self):
        for count, cables in reckoning.all_inputs():
            places = laid(count, cables)
            self.assertIs(type(places), list)
            self.assertEqual(places, sorted(set(places)))


if __name__ == "__main__":
    unittest.main()
