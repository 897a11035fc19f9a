"""Points 7 to 9: ways, detours, the laid cables unrolled."""

import unittest

from mastline.laying import laid
from mastline.walking import detours, unrolled, way

import reckoning

# A square with both diagonals; 1, 2 and 4 are laid.
SQUARE = [(0, 1, 4), (1, 2, 3), (2, 3, 2), (3, 0, 5), (0, 2, 1), (1, 3, 6)]


def where_one_comes(cables, start, row):
    """The mast to which one comes from `start` over `row` in its order; None where a step can't be gone."""
    mast = start
    for place in row:
        one, other = cables[place][:2]
        if mast not in (one, other):
            return None
        mast = other if mast == one else one
    return mast


class Way(unittest.TestCase):
    def test_square(self):
        self.assertEqual(way(4, SQUARE, 0, 1), [4, 1])
        self.assertEqual(way(4, SQUARE, 1, 0), [1, 4])
        self.assertEqual(way(4, SQUARE, 3, 1), [2, 1])
        self.assertEqual(way(4, SQUARE, 0, 2), [4])
        self.assertEqual(way(4, SQUARE, 2, 0), [4])

    def test_from_a_mast_to_itself(self):
        self.assertEqual(way(4, SQUARE, 3, 3), [])
        self.assertEqual(way(1, [], 0, 0), [])
        self.assertEqual(way(1, [(0, 0, 0)], 0, 0), [])

    def test_none_where_not_joined(self):
        self.assertIsNone(way(2, [], 0, 1))
        self.assertIsNone(way(4, [(0, 1, 2), (2, 3, 2)], 1, 2))
        self.assertIsNone(way(3, [(0, 1, 2), (2, 2, 0)], 2, 0))

    def test_over_the_laid_one_of_several(self):
        cables = [(0, 1, 4), (1, 0, 3), (0, 1, 3)]
        self.assertEqual(way(2, cables, 0, 1), [1])
        self.assertEqual(way(2, cables, 1, 0), [1])

    def test_a_laid_way_may_be_longer_than_a_cable_left_out(self):
        self.assertEqual(way(3, [(0, 1, 3), (1, 2, 3), (0, 2, 4)], 0, 2), [0, 1])

    def test_a_hundred_masts_in_one_row(self):
        count, cables = reckoning.row_of_masts(100)
        self.assertEqual(way(count, cables, 0, 99), list(range(99)))
        self.assertEqual(way(count, cables, 99, 0), list(range(98, -1, -1)))
        self.assertEqual(way(count, cables, 40, 43), [40, 41, 42])

    def test_each_way_from_mast_to_mast(self):
        for count, cables in reckoning.all_inputs():
            places = laid(count, cables)
            masts = range(count) if count < 10 else (0, 1, count // 2, count - 1)
            for one in masts:
                near = reckoning.reached(cables, places, one)
                for other in masts:
                    self.check(cables, places, (one, other), way(count, cables, one, other), other in near)

    def check(self, cables, places, ends, row, are_joined):
        if not are_joined:
            self.assertIsNone(row, (cables, ends))
            return
        self.assertIs(type(row), list)
        self.assertEqual(len(row), len(set(row)), (cables, ends))
        self.assertLessEqual(set(row), set(places), (cables, ends))
        self.assertEqual(where_one_comes(cables, ends[0], row), ends[1], (cables, ends))
        if ends[0] == ends[1]:
            self.assertEqual(row, [], (cables, ends))


class Detours(unittest.TestCase):
    def test_square(self):
        self.assertEqual(detours(4, SQUARE), [(0, [4, 1]), (3, [2, 4]), (5, [1, 2])])

    def test_a_mast_with_itself_has_an_empty_one(self):
        self.assertEqual(detours(2, [(1, 1, 0), (0, 1, 3), (0, 0, 9)]), [(0, []), (2, [])])

    def test_from_the_first_mast_to_the_second(self):
        cables = [(0, 1, 1), (1, 2, 2), (2, 0, 3), (0, 2, 3)]
        self.assertEqual(detours(3, cables), [(2, [1, 0]), (3, [0, 1])])

    def test_several_between_the_same_two_masts(self):
        self.assertEqual(detours(2, [(0, 1, 4), (1, 0, 4), (0, 1, 3)]), [(0, [2]), (1, [2])])

    def test_none_left_out(self):
        self.assertEqual(detours(0, []), [])
        self.assertEqual(detours(3, []), [])
        self.assertEqual(detours(*reckoning.row_of_masts(100)), [])

    def test_one_round_a_hundred_masts(self):
        count, cables = reckoning.row_of_masts(100)
        self.assertEqual(detours(count, cables + [(0, 99, 100)]), [(99, list(range(99)))])

    def test_one_for_each_that_is_left_out(self):
        for count, cables in reckoning.all_inputs():
            places = laid(count, cables)
            rows = detours(count, cables)
            self.assertIs(type(rows), list)
            self.assertTrue(all(type(pair) is tuple and len(pair) == 2 for pair in rows))
            self.assertEqual([pair[0] for pair in rows], [p for p in range(len(cables)) if p not in places])

    def test_each_is_a_way_of_cables_before_it(self):
        for count, cables in reckoning.all_inputs():
            places = laid(count, cables)
            for place, row in detours(count, cables):
                one, other = cables[place][:2]
                self.assertIs(type(row), list)
                self.assertEqual(len(row), len(set(row)), cables)
                self.assertLessEqual(set(row), set(places), cables)
                self.assertEqual(where_one_comes(cables, one, row), other, cables)
                self.assertTrue(all(reckoning.is_before(cables, p, place) for p in row), cables)

    def test_the_same_as_the_way(self):
        for count, cables in reckoning.small_inputs():
            for place, row in detours(count, cables):
                self.assertEqual(row, way(count, cables, cables[place][0], cables[place][1]))


class Unrolled(unittest.TestCase):
    def test_no_masts(self):
        self.assertEqual(unrolled(0, []), [])

    def test_no_cables(self):
        self.assertEqual(sorted(unrolled(3, [])), [(0, None), (1, None), (2, None)])

    def test_one_cable(self):
        self.assertIn(unrolled(2, [(1, 1, 0), (0, 1, 5)]), ([(0, None), (1, 1)], [(1, None), (0, 1)]))

    def test_masts_that_no_cable_reaches_have_none(self):
        told = dict(unrolled(5, [(1, 3, 2), (3, 1, 1), (4, 4, 0)]))
        self.assertEqual([told[0], told[2], told[4]], [None, None, None])
        self.assertIn((told[1], told[3]), ((None, 1), (1, None)))

    def test_a_row_whose_least_mast_is_in_the_middle(self):
        cables = [(3, 1, 5), (1, 0, 4), (0, 2, 3), (2, 4, 2)]
        self.check(5, cables)
        self.assertEqual(sum(1 for mast, place in unrolled(5, cables) if place is None), 1)

    def test_each_pair_joins_to_a_mast_ahead(self):
        for count, cables in reckoning.all_inputs():
            self.check(count, cables)

    def check(self, count, cables):
        places = laid(count, cables)
        pairs = unrolled(count, cables)
        self.assertIs(type(pairs), list)
        self.assertTrue(all(type(pair) is tuple and len(pair) == 2 for pair in pairs))
        self.assertEqual(sorted(mast for mast, place in pairs), list(range(count)), cables)
        self.assertEqual(sorted(place for mast, place in pairs if place is not None), places, cables)
        ahead = set()
        for mast, place in pairs:
            if place is None:
                self.assertFalse(ahead & reckoning.reached(cables, places, mast), cables)
            else:
                one, other = cables[place][:2]
                self.assertIn(mast, (one, other), cables)
                self.assertIn(other if mast == one else one, ahead, cables)
            ahead.add(mast)


if __name__ == "__main__":
    unittest.main()
