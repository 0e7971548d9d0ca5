"""Point 2: go, and what "The places" says of a way."""

import unittest

from helper import begin, go, last, lying, standing, told, try_ways
from wetwalk.hall import Walker


class InRain(unittest.TestCase):
    def test_takes_one_along_and_leaves_it_there(self):
        calls = [begin(0, [2, 1]), go(1, 1)]
        self.assertEqual(last(*calls), [0])
        self.assertEqual(lying(2, *calls), [1, 2])
        self.assertEqual(standing(2, *calls), 1)

    def test_gets_wet_where_there_is_none(self):
        calls = [begin(0, [0, 3, 1]), go(1, 1)]
        self.assertEqual(last(*calls), [1])
        self.assertEqual(lying(3, *calls), [0, 3, 1])
        self.assertEqual(standing(3, *calls), 1)

    def test_the_last_one_is_taken(self):
        calls = [begin(0, [1, 0]), go(1, 1), go(0, 0), go(1, 1)]
        self.assertEqual(told(*calls)[1:], [[0], [0], [1]])
        self.assertEqual(lying(2, *calls), [0, 1])

    def test_carried_too_is_still_one_umbrella(self):
        calls = [begin(0, [2, 1]), go(1, 1, 1)]
        self.assertEqual(last(*calls), [0])
        self.assertEqual(lying(2, *calls), [1, 2])

    def test_carried_too_gets_wet_where_there_is_none(self):
        calls = [begin(0, [0, 1]), go(1, 1, 1)]
        self.assertEqual(last(*calls), [1])
        self.assertEqual(lying(2, *calls), [0, 1])

    def test_to_the_place_where_one_is(self):
        calls = [begin(1, [2, 1]), go(1, 1)]
        self.assertEqual(last(*calls), [0])
        self.assertEqual(lying(2, *calls), [2, 1])
        self.assertEqual(standing(2, *calls), 1)

    def test_to_the_place_where_one_is_without_one(self):
        calls = [begin(1, [2, 0]), go(1, 1)]
        self.assertEqual(last(*calls), [1])
        self.assertEqual(lying(2, *calls), [2, 0])


class Dry(unittest.TestCase):
    def test_takes_none(self):
        calls = [begin(0, [2, 1, 0]), go(2, 0)]
        self.assertEqual(last(*calls), [0])
        self.assertEqual(lying(3, *calls), [2, 1, 0])
        self.assertEqual(standing(3, *calls), 2)

    def test_nobody_gets_wet_without_one(self):
        self.assertEqual(last(begin(0, [0, 1]), go(1, 0)), [0])

    def test_carried_takes_one_along(self):
        calls = [begin(0, [2, 1]), go(1, 0, 1)]
        self.assertEqual(last(*calls), [0])
        self.assertEqual(lying(2, *calls), [1, 2])
        self.assertEqual(standing(2, *calls), 1)

    def test_carried_where_there_is_none(self):
        calls = [begin(0, [0, 2]), go(1, 0, 1)]
        self.assertEqual(last(*calls), [0])
        self.assertEqual(lying(2, *calls), [0, 2])
        self.assertEqual(standing(2, *calls), 1)

    def test_carried_to_the_place_where_one_is(self):
        calls = [begin(0, [1, 2]), go(0, 0, 1)]
        self.assertEqual(last(*calls), [0])
        self.assertEqual(lying(2, *calls), [1, 2])


class OneBehindAnother(unittest.TestCase):
    def test_they_gather_at_one_place(self):
        calls = [begin(0, [2, 0]), go(1, 1), go(0, 0), go(1, 1), go(0, 0), go(1, 1), go(0, 1)]
        self.assertEqual(told(*calls)[1:], [[0], [0], [0], [0], [1], [0]])
        self.assertEqual(lying(2, *calls), [1, 1])

    def test_six_may_gather_at_one_place(self):
        calls = [begin(0, [1, 5]), go(1, 1)]
        self.assertEqual(lying(2, *calls), [0, 6])

    def test_ways_and_wet_ways_are_counted(self):
        walker = Walker()
        walker.begin(0, [1, 0])
        for rains in (1, 0, 1, 1):
            walker.go(1 - walker.here, rains, 0)
        self.assertEqual((walker.gone, walker.wet), (4, 1))
        self.assertEqual((walker.come, walker.lost), (1, 0))


class Refused(unittest.TestCase):
    def test_no_such_place(self):
        for places in (2, 3, 4):
            for place in range(places, 10):
                self.assertEqual(last(begin(0, [1] * places), go(place, 0)), [-1])

    def test_rains_above_one(self):
        for rains in range(2, 10):
            self.assertEqual(last(begin(0, [1, 1]), go(1, rains)), [-1])

    def test_carried_above_one(self):
        for carried in range(2, 10):
            self.assertEqual(last(begin(0, [1, 1]), go(1, 0, carried)), [-1])
            self.assertEqual(last(begin(0, [1, 1]), go(1, 1, carried)), [-1])

    def test_several_reasons_are_one_refusal(self):
        self.assertEqual(last(begin(0, [1, 1]), go(2, 2, 2)), [-1])

    def test_changes_nothing(self):
        for bad in (go(2, 1), go(1, 2), go(1, 1, 2), go(9, 9, 9)):
            calls = [begin(0, [2, 1]), bad]
            self.assertEqual(lying(2, *calls), [2, 1])
            self.assertEqual(standing(2, *calls), 0)
            self.assertEqual(last(*calls, try_ways([1], [1])), [0, 0])

    def test_is_not_counted(self):
        walker = Walker()
        walker.begin(0, [0, 0])
        self.assertEqual(walker.go(2, 1, 0), [-1])
        self.assertEqual(walker.go(1, 2, 0), [-1])
        self.assertEqual((walker.gone, walker.wet), (0, 0))


if __name__ == "__main__":
    unittest.main()
