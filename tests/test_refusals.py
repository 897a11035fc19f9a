"""Point 10, and that nothing handed in is changed (point 1)."""

import copy
import unittest

from mastline.errors import MastError, NoMast
from mastline.laying import in_turn, laid, total
from mastline.walking import detours, unrolled, way

import reckoning

FUNCTIONS = {
    "laid": laid,
    "total": total,
    "unrolled": unrolled,
    "detours": detours,
    "way": lambda count, cables: way(count, cables, 0, 0),
}

# More figures than Python writes as a text.
ENDLESS = 10 ** 5000


def stray_numbers(count):
    return (-1, -count, -count - 1, count, count + 1, count + 50, ENDLESS, -ENDLESS)


class Refusals(unittest.TestCase):
    def refused(self, count, cables):
        for name, function in FUNCTIONS.items():
            with self.subTest(function=name, count=count, places=len(cables)):
                before = copy.deepcopy(cables)
                with self.assertRaises(NoMast):
                    function(count, cables)
                self.assertEqual(cables, before)

    def test_as_the_first_and_as_the_second_mast(self):
        for number in stray_numbers(3):
            self.refused(3, [(number, 1, 5)])
            self.refused(3, [(1, number, 5)])
            self.refused(3, [(number, number, 0)])

    def test_beside_cables_that_are_in_order(self):
        for number in stray_numbers(3):
            for stray in ((number, 2, 1), (2, number, 9)):
                self.refused(3, [(0, 1, 3), (1, 2, 3), stray])
                self.refused(3, [stray, (0, 1, 3), (1, 2, 3)])
                self.refused(3, [(0, 1, 3), stray, (1, 2, 3)])

    def test_where_the_cable_would_be_left_out(self):
        self.refused(2, [(0, 1, 0), (2, 2, 7)])
        self.refused(2, [(0, 1, 0), (-1, -1, 7)])

    def test_no_masts(self):
        for number in (-1, 0, 1):
            self.refused(0, [(number, number, 0)])

    def test_a_hundred_masts(self):
        self.refused(100, [(0, 99, 1), (99, 100, 1)])

    def test_the_greatest_and_the_least_mast_are_not_refused(self):
        for count in (1, 2, 100):
            for cable in ((0, count - 1, 1), (count - 1, 0, 1), (0, 0, 1), (count - 1, count - 1, 1)):
                for function in FUNCTIONS.values():
                    function(count, [cable])

    def test_in_turn_does_not_refuse(self):
        self.assertEqual(in_turn([(-1, 7, 3), (100, -100, 2), (ENDLESS, 0, 2)]), [1, 2, 0])


class RefusedWays(unittest.TestCase):
    def refused(self, count, cables, one, other):
        before = copy.deepcopy(cables)
        with self.assertRaises(NoMast):
            way(count, cables, one, other)
        self.assertEqual(cables, before)

    def test_from_and_to_no_mast(self):
        for cables in ([], [(0, 1, 2)], [(0, 1, 2), (2, 1, 2)]):
            for number in stray_numbers(3):
                self.refused(3, cables, number, 0)
                self.refused(3, cables, 0, number)
                self.refused(3, cables, number, number)

    def test_no_masts(self):
        for number in (-1, 0, 1):
            self.refused(0, [], number, number)
        self.refused(0, [], 0, 1)

    def test_a_stray_cable_where_the_way_is_in_order(self):
        self.refused(3, [(0, 1, 2), (1, 3, 2)], 0, 1)
        self.refused(3, [(-1, 0, 2)], 2, 2)
        self.refused(3, [(-1, 0, 2)], 0, 2)

    def test_both_wrong(self):
        self.refused(3, [(0, 3, 2)], 3, 0)

    def test_the_least_and_the_greatest_mast(self):
        self.assertEqual(way(2, [(0, 1, 2)], 0, 1), [0])
        self.assertEqual(way(2, [(0, 1, 2)], 1, 0), [0])


class Errors(unittest.TestCase):
    def test_what_stands_under_what(self):
        self.assertTrue(issubclass(MastError, ValueError))
        self.assertTrue(issubclass(NoMast, MastError))
        self.assertIsNot(NoMast, MastError)

    def test_taken_as_any_refusal(self):
        for kind in (NoMast, MastError, ValueError):
            with self.assertRaises(kind):
                laid(1, [(0, 1, 1)])


class NothingIsChanged(unittest.TestCase):
    def test_after_an_answer(self):
        for count, cables in reckoning.all_inputs():
            if count == 0:
                continue
            before = list(cables)
            in_turn(cables)
            for function in FUNCTIONS.values():
                function(count, cables)
            self.assertEqual(cables, before)

    def test_no_masts(self):
        cables = []
        self.assertEqual((in_turn(cables), laid(0, cables), total(0, cables)), ([], [], 0))
        self.assertEqual((unrolled(0, cables), detours(0, cables)), ([], []))
        self.assertEqual(cables, [])

    def test_an_answer_is_the_askers_own(self):
        cables = [(0, 1, 1), (1, 0, 2), (1, 1, 0)]
        for function in list(FUNCTIONS.values()) + [lambda count, given: in_turn(given)]:
            first = function(2, cables)
            told = copy.deepcopy(first)
            if type(first) is list:
                first.append("more")
            self.assertEqual(function(2, cables), told)
            self.assertEqual(cables, [(0, 1, 1), (1, 0, 2), (1, 1, 0)])


if __name__ == "__main__":
    unittest.main()
