"""Points 3 and 4: bring and lose."""

import unittest

from helper import begin, bring, go, last, lose, lying, standing, told
from wetwalk.hall import Walker


class Bring(unittest.TestCase):
    def test_answers_how_many_are_there_then(self):
        calls = [begin(0, [0, 2, 1]), bring(0), bring(1), bring(1)]
        self.assertEqual(told(*calls)[1:], [[1], [3], [4]])
        self.assertEqual(lying(3, *calls), [1, 4, 1])
        self.assertEqual(standing(3, *calls), 0)

    def test_up_to_six_in_all(self):
        calls = [begin(0, [2, 3]), bring(1), bring(1), bring(0)]
        self.assertEqual(told(*calls)[1:], [[4], [-5], [-5]])
        self.assertEqual(lying(2, *calls), [2, 4])

    def test_six_set_up(self):
        for place in (0, 1):
            self.assertEqual(last(begin(0, [6, 0]), bring(place)), [-5])

    def test_six_at_one_place(self):
        calls = [begin(0, [0, 0])] + [bring(1)] * 7
        self.assertEqual(told(*calls)[1:], [[1], [2], [3], [4], [5], [6], [-5]])

    def test_one_may_come_again_where_one_was_lost(self):
        calls = [begin(0, [3, 3]), bring(0), lose(1), bring(0), bring(0)]
        self.assertEqual(told(*calls)[1:], [[-5], [2], [4], [-5]])

    def test_ways_do_not_change_how_many_there_are_in_all(self):
        calls = [begin(0, [5, 0]), go(1, 1), go(0, 0), go(1, 0, 1), bring(0), bring(0)]
        self.assertEqual(told(*calls)[4:], [[4], [-5]])

    def test_no_such_place(self):
        for places in (2, 3, 4):
            for place in range(places, 10):
                self.assertEqual(last(begin(0, [0] * places), bring(place)), [-2])

    def test_no_such_place_is_told_ahead_of_six_in_all(self):
        self.assertEqual(last(begin(0, [6, 0]), bring(2)), [-2])

    def test_keeps_nobody_dry_elsewhere(self):
        calls = [begin(0, [0, 0]), bring(1), go(1, 1), bring(0), go(0, 1)]
        self.assertEqual(told(*calls)[1:], [[1], [1], [1], [0]])


class Lose(unittest.TestCase):
    def test_answers_how_many_are_there_then(self):
        calls = [begin(1, [3, 1]), lose(0), lose(0), lose(1)]
        self.assertEqual(told(*calls)[1:], [[2], [1], [0]])
        self.assertEqual(lying(2, *calls), [1, 0])
        self.assertEqual(standing(2, *calls), 1)

    def test_none_is_there(self):
        calls = [begin(0, [0, 6]), lose(0)]
        self.assertEqual(last(*calls), [-6])
        self.assertEqual(lying(2, *calls), [0, 6])

    def test_none_is_there_any_more(self):
        calls = [begin(0, [1, 1]), lose(0), lose(0), bring(0), lose(0), lose(0)]
        self.assertEqual(told(*calls)[1:], [[0], [-6], [1], [0], [-6]])

    def test_taken_along_it_is_not_there(self):
        calls = [begin(0, [1, 0]), go(1, 1), lose(0), lose(1)]
        self.assertEqual(told(*calls)[1:], [[0], [-6], [0]])

    def test_no_such_place(self):
        for places in (2, 3, 4):
            for place in range(places, 10):
                self.assertEqual(last(begin(0, [1] * places), lose(place)), [-2])
                self.assertEqual(last(begin(0, [0] * places), lose(place)), [-2])

    def test_a_lost_one_keeps_nobody_dry(self):
        self.assertEqual(last(begin(0, [1, 0]), lose(0), go(1, 1)), [1])


class Counted(unittest.TestCase):
    def test_come_and_lost(self):
        walker = Walker()
        walker.begin(0, [2, 1])
        walker.bring(1)
        walker.bring(0)
        walker.lose(1)
        self.assertEqual((walker.come, walker.lost), (5, 1))

    def test_what_is_refused_is_not_counted(self):
        walker = Walker()
        walker.begin(0, [6, 0])
        self.assertEqual([walker.bring(0), walker.bring(2)], [[-5], [-2]])
        self.assertEqual([walker.lose(1), walker.lose(2)], [[-6], [-2]])
        self.assertEqual((walker.come, walker.lost), (6, 0))


if __name__ == "__main__":
    unittest.main()
