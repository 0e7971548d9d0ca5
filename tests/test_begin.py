"""Point 1: begin."""

import unittest

from helper import begin, bring, go, last, lose, lying, standing, told, try_ways
from wetwalk.hall import Walker


class Granted(unittest.TestCase):
    def test_answers_zero(self):
        self.assertEqual(told(begin(0, [1, 1])), [[0]])

    def test_two_three_and_four_places(self):
        for places in (2, 3, 4):
            self.assertEqual(told(begin(0, [0] * places)), [[0]])

    def test_each_place_that_there_is(self):
        for places in (2, 3, 4):
            for place in range(places):
                start = begin(place, [1] * places)
                self.assertEqual(told(start), [[0]])
                self.assertEqual(standing(places, start), place)

    def test_as_many_umbrellas_at_each_place_as_are_told(self):
        for umbrellas in ([0, 0], [2, 1], [0, 3, 1], [1, 0, 2, 3], [6, 0], [0, 0, 0, 6]):
            self.assertEqual(lying(len(umbrellas), begin(1, umbrellas)), umbrellas)

    def test_six_umbrellas_in_all(self):
        for umbrellas in ([6, 0], [0, 6], [3, 3], [2, 2, 2], [1, 1, 2, 2]):
            self.assertEqual(told(begin(0, umbrellas)), [[0]])


    def test_the_row_that_is_handed_over_stays_as_it_was(self):
        umbrellas = [1, 1]
        walker = Walker()
        walker.begin(0, umbrellas)
        walker.bring(0)
        walker.go(1, 1, 0)
        self.assertEqual(umbrellas, [1, 1])


class Refused(unittest.TestCase):
    def test_too_few_or_too_many_places(self):
        for places in (0, 1, 5, 6, 10):
            self.assertEqual(told(begin(0, [0] * places)), [[-1]])

    def test_no_such_place(self):
        for places in (2, 3, 4):
            for place in range(places, 10):
                self.assertEqual(told(begin(place, [0] * places)), [[-1]])

    def test_more_than_six_umbrellas(self):
        for umbrellas in ([7, 0], [0, 7], [3, 4], [3, 2, 2], [2, 2, 2, 1], [9, 9, 9, 9]):
            self.assertEqual(told(begin(0, umbrellas)), [[-1]])

    def test_several_reasons_are_one_refusal(self):
        for place, umbrellas in ((9, [7, 7]), (3, [9] * 10), (1, [8]), (2, [])):
            self.assertEqual(told(begin(place, umbrellas)), [[-1]])

    def test_refused_behind_a_good_one_changes_nothing(self):
        start = [begin(1, [2, 0, 1]), go(2, 1), go(0, 1)]
        for bad in (begin(0, [1]), begin(0, [0] * 5), begin(2, [0, 0]), begin(0, [7, 0]), begin(0, [])):
            self.assertEqual(last(*start, bad), [-1])
            self.assertEqual(lying(3, *start, bad), [3, 0, 0])
            self.assertEqual(standing(3, *start, bad), 0)

    def test_refused_keeps_the_counts(self):
        walker = Walker()
        walker.begin(0, [1, 0])
        walker.go(1, 1, 0)
        walker.go(0, 0, 0)
        walker.go(1, 1, 0)
        walker.bring(0)
        walker.lose(1)
        counts = (walker.gone, walker.wet, walker.come, walker.lost)
        self.assertEqual(counts, (3, 1, 2, 1))
        self.assertEqual(walker.begin(0, [7, 0]), [-1])
        self.assertEqual((walker.gone, walker.wet, walker.come, walker.lost), counts)


class Anew(unittest.TestCase):
    def test_instead_of_what_there_was(self):
        start = [begin(0, [3, 3]), go(1, 1), bring(0), lose(1), begin(2, [0, 1, 0, 2])]
        self.assertEqual(last(*start), [0])
        self.assertEqual(lying(4, *start), [0, 1, 0, 2])
        self.assertEqual(standing(4, *start), 2)

    def test_fewer_places_than_before(self):
        start = [begin(3, [1, 1, 1, 1]), begin(0, [1, 1])]
        self.assertEqual(last(*start, bring(2)), [-2])
        self.assertEqual(last(*start, go(3, 0)), [-1])
        self.assertEqual(last(*start, try_ways([2], [0])), [-1])

    def test_more_places_than_before(self):
        start = [begin(0, [1, 1]), begin(0, [1, 1, 0, 0])]
        self.assertEqual(last(*start, bring(3)), [1])
        self.assertEqual(last(*start, go(3, 1)), [0])

    def test_counts_begin_anew(self):
        walker = Walker()
        walker.begin(0, [0, 5])
        walker.go(1, 1, 0)
        walker.bring(0)
        walker.lose(1)
        self.assertEqual(walker.begin(1, [2, 1]), [0])
        self.assertEqual((walker.gone, walker.wet, walker.come, walker.lost), (0, 0, 3, 0))


if __name__ == "__main__":
    unittest.main()
