"""Point 10: look; and that try, least, best, carried, chance and look change nothing."""

import unittest

from helper import begin, best, bring, carried, chance, go, last, least, look, lose, lying, standing, told, try_ways


class Told(unittest.TestCase):
    def assert_looks(self, calls, wanted):
        self.assertEqual(last(*calls, look()), wanted)
        places = len(wanted) - 5
        self.assertEqual(lying(places, *calls), wanted[5:])
        self.assertEqual(standing(places, *calls), wanted[4])

    def test_after_begin(self):
        self.assert_looks([begin(1, [2, 3])], [0, 0, 5, 0, 1, 2, 3])
        self.assert_looks([begin(0, [0, 0])], [0, 0, 0, 0, 0, 0, 0])
        self.assert_looks([begin(2, [0, 6, 0])], [0, 0, 6, 0, 2, 0, 6, 0])
        self.assert_looks([begin(3, [1, 0, 2, 3])], [0, 0, 6, 0, 3, 1, 0, 2, 3])

    def test_after_a_rainy_way(self):
        self.assert_looks([begin(0, [2, 1]), go(1, 1)], [1, 0, 3, 0, 1, 1, 2])

    def test_after_a_wet_way(self):
        self.assert_looks([begin(0, [0, 1, 0]), go(2, 1)], [1, 1, 1, 0, 2, 0, 1, 0])

    def test_after_a_dry_way(self):
        self.assert_looks([begin(0, [2, 1]), go(1, 0)], [1, 0, 3, 0, 1, 2, 1])
        self.assert_looks([begin(0, [0, 1]), go(1, 0)], [1, 0, 1, 0, 1, 0, 1])

    def test_after_a_way_on_which_one_is_carried(self):
        self.assert_looks([begin(0, [2, 1]), go(1, 0, 1)], [1, 0, 3, 0, 1, 1, 2])
        self.assert_looks([begin(0, [2, 1]), go(1, 1, 1)], [1, 0, 3, 0, 1, 1, 2])

    def test_after_a_way_on_which_none_is_there_to_be_carried(self):
        self.assert_looks([begin(0, [0, 1]), go(1, 0, 1)], [1, 0, 1, 0, 1, 0, 1])
        self.assert_looks([begin(0, [0, 1]), go(1, 1, 1)], [1, 1, 1, 0, 1, 0, 1])

    def test_after_ways_to_the_place_where_one_is(self):
        self.assert_looks([begin(0, [1, 1]), go(0, 1), go(0, 0), go(0, 0, 1)], [3, 0, 2, 0, 0, 1, 1])
        self.assert_looks([begin(0, [0, 1]), go(0, 1), go(0, 1)], [2, 2, 1, 0, 0, 0, 1])

    def test_after_bring_and_lose(self):
        self.assert_looks([begin(0, [1, 1]), bring(1)], [0, 0, 3, 0, 0, 1, 2])
        self.assert_looks([begin(0, [1, 1]), lose(0)], [0, 0, 2, 1, 0, 0, 1])
        calls = [begin(0, [1, 1]), bring(0), lose(0), lose(0), bring(1), lose(1)]
        self.assert_looks(calls, [0, 0, 4, 3, 0, 0, 1])

    def test_more_than_six_may_have_come(self):
        calls = [begin(0, [6, 0])] + [lose(0), bring(1)] * 6
        self.assert_looks(calls, [0, 0, 12, 6, 0, 0, 6])

    def test_after_many(self):
        calls = [begin(0, [1, 0, 0]), go(1, 1), go(0, 0), go(2, 1), bring(2), go(0, 0, 1), lose(1), go(1, 1)]
        self.assert_looks(calls, [5, 1, 2, 1, 1, 0, 1, 0])

    def test_more_ways_than_a_route_has(self):
        calls = [begin(0, [0, 0])] + [go(1, 1), go(0, 0)] * 29
        self.assertEqual(last(*calls, look()), [58, 29, 0, 0, 0, 0, 0])

    def test_refusals_are_not_counted(self):
        refused = [begin(2, [0, 0]), begin(0, [7, 0]), begin(0, [1]), go(2, 1), go(1, 2), go(1, 1, 2),
                   bring(2), bring(0), lose(2), lose(1), try_ways([], []), least([2], [1]), best(7, [1], [1]),
                   carried([1], [2]), chance(1, 0, [1]), chance(2, 1, [1])]
        start = [begin(0, [4, 2]), go(1, 1), go(0, 1), lose(1), lose(1), bring(0), bring(0)]
        for call in refused:
            answered = told(*start, call, look())
            self.assertLess(answered[-2][0], 0)
            self.assertEqual(len(answered[-2]), 1)
            self.assertEqual(answered[-1], [2, 0, 8, 2, 0, 6, 0])
        self.assertEqual(last(*start, *refused, look()), [2, 0, 8, 2, 0, 6, 0])
        calls = [begin(0, [0, 2]), carried([1], [1]), lose(0), look()]
        self.assertEqual(told(*calls), [[0], [-6], [-6], [0, 0, 2, 0, 0, 0, 2]])

    def test_calls_that_were_refused_before_the_first_begin_are_not_counted(self):
        calls = [look(), go(1, 1), bring(0), lose(0), begin(0, [9, 9]), look(), begin(1, [1, 0]), look()]
        self.assertEqual(told(*calls), [[-9]] * 4 + [[-1], [-9], [0], [0, 0, 1, 0, 1, 1, 0]])

    def test_after_a_second_begin(self):
        start = [begin(0, [1, 2]), go(1, 1), go(0, 0), go(1, 1), bring(0), lose(1)]
        self.assert_looks(start, [3, 1, 4, 1, 1, 1, 2])
        self.assert_looks(start + [begin(2, [0, 1, 1])], [0, 0, 2, 0, 2, 0, 1, 1])
        self.assert_looks(start + [begin(0, [0, 0]), go(1, 1)], [1, 1, 0, 0, 1, 0, 0])

    def test_after_a_second_begin_that_is_refused(self):
        start = [begin(0, [1, 2]), go(1, 1), go(0, 0), go(1, 1), bring(0), lose(1)]
        for bad in (begin(0, [1]), begin(0, [1] * 5), begin(2, [1, 1]), begin(0, [6, 1]), begin(0, [])):
            self.assert_looks(start + [bad], [3, 1, 4, 1, 1, 1, 2])

    def test_before_the_first_begin(self):
        self.assertEqual(told(look()), [[-9]])
        self.assertEqual(told(begin(0, [7, 0]), look()), [[-1], [-9]])

    def test_those_that_have_come_and_were_not_lost_are_there(self):
        calls = [begin(1, [2, 0, 3]), go(2, 1), go(0, 1), lose(0), bring(1), go(1, 0, 1), bring(1), lose(2)]
        for many in range(1, len(calls) + 1):
            seen = last(*calls[:many], look())
            self.assertEqual(seen[2] - seen[3], sum(seen[5:]))


class NothingChanges(unittest.TestCase):
    asked = (try_ways([1, 2, 1, 0], [1, 1, 0, 1]), least([1, 2, 1, 0], [1, 1, 0, 1]),
             best(3, [1, 2, 1, 0], [1, 1, 0, 1]), carried([1, 2, 1, 0], [0, 0, 0, 1]),
             carried([1, 0, 1], [1, 0, 1]), chance(2, 3, [1, 2, 1, 0]), look())

    def test_each_between_all_others(self):
        steps = [begin(0, [2, 0, 1]), go(1, 1), go(2, 0), go(0, 0, 1), bring(1), lose(0), go(1, 1), begin(1, [0, 1, 0])]
        wanted = told(*steps)
        for call in self.asked:
            calls = [one for step in steps for one in (step, call)]
            self.assertEqual(told(*calls)[::2], wanted)

    def test_each_ahead_of_each(self):
        start = [begin(0, [2, 0, 1]), go(1, 1), go(2, 0), bring(0)]
        for call in self.asked:
            wanted = last(*start, call)
            self.assertGreaterEqual(wanted[0], 0)
            for ahead in self.asked:
                self.assertEqual(last(*start, ahead, ahead, call), wanted)

    def test_what_is_seen_stays(self):
        start = [begin(0, [2, 0, 1]), go(1, 1), go(2, 0), bring(0)]
        self.assertEqual(told(*start, look(), *self.asked, look())[-1], last(*start, look()))


if __name__ == "__main__":
    unittest.main()
