"""Point 7: best."""

import random
import unittest

from helper import begin, best, bring, go, last, least, lose, many_told, reckon_best, routes, told, try_ways, weathers


class Put(unittest.TestCase):
    def test_how_often_then_at_each_place(self):
        self.assertEqual(last(begin(0, [0, 0]), best(1, [1, 0, 1, 0], [1, 0, 1, 0])), [1, 1, 0])
        self.assertEqual(last(begin(0, [0, 0]), best(1, [1, 0], [0, 1])), [0, 0, 1])
        self.assertEqual(last(begin(0, [0, 0, 0]), best(2, [1, 2, 0, 1], [1, 0, 1, 0])), [0, 1, 0, 1])

    def test_the_fewest_wet_ways_though_not_none(self):
        self.assertEqual(last(begin(0, [0, 0]), best(3, [1, 0] * 4, [0, 1] * 4)), [1, 0, 3])
        self.assertEqual(last(begin(0, [0, 0]), best(1, [1, 0] * 4, [0, 1] * 4)), [3, 0, 1])

    def test_the_first_rain_is_not_always_the_one_to_be_dry_in(self):
        # At 1 one umbrella keeps one dry on four ways, at 0 it's left behind on the first.
        calls = [begin(0, [0, 0, 0]), best(1, [2, 1, 0, 1, 0, 1], [1, 0, 1, 1, 1, 1])]
        self.assertEqual(last(*calls), [1, 0, 1, 0])

    def test_none(self):
        self.assertEqual(last(begin(0, [3, 3]), best(0, [1, 0, 1], [1, 0, 1])), [2, 0, 0])
        self.assertEqual(last(begin(0, [3, 3]), best(0, [1, 0, 1], [0, 0, 0])), [0, 0, 0])
        self.assertEqual(last(begin(2, [0] * 4), best(0, [1] * 8, [1] * 8)), [8, 0, 0, 0, 0])

    def test_six(self):
        self.assertEqual(last(begin(0, [0, 0]), best(6, [1, 0] * 4, [1, 0] * 4)), [0, 6, 0])
        self.assertEqual(last(begin(0, [0, 0]), best(6, [1, 0] * 4, [0, 1] * 4)), [0, 2, 4])
        self.assertEqual(last(begin(3, [0] * 4), best(6, [0], [1])), [0, 5, 0, 0, 1])

    def test_all_that_are_handed_over_are_put(self):
        for n in range(7):
            answered = last(begin(0, [1, 1, 1]), best(n, [1, 2, 1], [1, 0, 1]))
            self.assertEqual(sum(answered[1:]), n)

    def test_to_the_place_where_one_is(self):
        self.assertEqual(last(begin(1, [0, 0]), best(1, [1, 1, 0], [1, 1, 1])), [0, 0, 1])
        self.assertEqual(last(begin(0, [0, 0]), best(1, [0, 0, 1], [1, 0, 1])), [0, 1, 0])

    def test_how_many_there_are_does_not_matter(self):
        asked = best(2, [1, 0, 2, 0, 1], [0, 1, 1, 0, 1])
        answered = {tuple(last(begin(0, umbrellas), asked)) for umbrellas in ([0, 0, 0], [6, 0, 0], [1, 2, 3])}
        self.assertEqual(answered, {(0, 1, 1, 0)})
        self.assertEqual(last(begin(0, [1, 1, 1]), bring(0), lose(1), asked), [0, 1, 1, 0])

    def test_from_where_one_is_then(self):
        asked = best(1, [0, 1], [1, 1])
        self.assertEqual(told(begin(0, [1, 1]), asked, go(1, 1), asked)[1:], [[0, 1, 0], [0], [0, 0, 1]])


class AsGood(unittest.TestCase):
    def test_no_rain_puts_all_at_the_first_place(self):
        for places in (2, 3, 4):
            for n in range(7):
                wanted = [0, n] + [0] * (places - 1)
                self.assertEqual(last(begin(1, [1] * places), best(n, [0, 1], [0, 0])), wanted)

    def test_what_is_not_needed_elsewhere_is_at_the_first_place(self):
        self.assertEqual(last(begin(1, [0, 0, 0]), best(3, [2, 0], [1, 0])), [0, 2, 1, 0])

    def test_more_where_they_first_differ_behind_the_first_place_too(self):
        # It does as much at one place as at the next, and at those ahead of them it helps nobody.
        self.assertEqual(last(begin(1, [0, 0, 0]), best(1, [1, 2, 2], [1, 0, 1])), [1, 0, 1, 0])
        self.assertEqual(last(begin(2, [0, 0, 0]), best(1, [2, 1, 1], [1, 0, 1])), [1, 0, 1, 0])
        self.assertEqual(last(begin(3, [0] * 4), best(1, [3, 2, 2], [1, 0, 1])), [1, 0, 0, 1, 0])

    def test_rains_of_two_places_as_often(self):
        self.assertEqual(last(begin(0, [0, 0]), best(1, [0, 1, 0], [1, 0, 1])), [1, 1, 0])
        self.assertEqual(last(begin(1, [0, 0]), best(1, [1, 0, 1], [1, 0, 1])), [1, 1, 0])


class ByItsWords(unittest.TestCase):
    def assert_as_reckoned(self, places, here, asked):
        answered = many_told(begin(here, [0] * places), [best(*given) for given in asked])
        for given, answer in zip(asked, answered):
            self.assertEqual(answer, reckon_best(given[0], places, here, given[1], given[2]), (here, given))

    def test_all_short_routes(self):
        for places, ways, most in ((2, 1, 6), (2, 3, 4), (3, 2, 3), (4, 2, 2)):
            asked = [(n, route, weather) for n in range(most + 1)
                     for route in routes(places, ways) for weather in weathers(ways)]
            for here in range(places):
                self.assert_as_reckoned(places, here, asked)

    def test_many_long_routes(self):
        source = random.Random(7)
        for turn in range(150):
            places = source.randint(2, 4)
            ways = source.randint(4, 8)
            route = [source.randrange(places) for way in range(ways)]
            weather = [source.randint(0, 1) for way in range(ways)]
            asked = [(n, route, weather) for n in range(5)] + [(6, route, weather)]
            self.assert_as_reckoned(places, source.randrange(places), asked)

    def test_tried_by_the_program_itself(self):
        for weather in weathers(5):
            for n in range(7):
                rows = ([1, 2, 0, 1, 0], weather)
                answered = last(begin(2, [0, 0, 0]), best(n, *rows))
                self.assertEqual(last(begin(2, answered[1:]), try_ways(*rows))[0], answered[0])
                enough = n >= last(begin(2, [0, 0, 0]), least(*rows))[0]
                self.assertEqual(answered[0] == 0, enough)


class Refused(unittest.TestCase):
    def test_more_than_six(self):
        for places in (2, 3, 4):
            for n in (7, 8, 9):
                self.assertEqual(last(begin(0, [1] * places), best(n, [1], [1])), [-1])
                self.assertEqual(last(begin(0, [1] * places), best(n, [1], [0])), [-1])

    def test_six_is_granted_however_many_there_are(self):
        for umbrellas in ([0, 0], [6, 0], [3, 3]):
            self.assertEqual(last(begin(0, umbrellas), best(6, [1], [1])), [0, 6, 0])

    def test_more_than_six_with_a_bad_route_or_weather_is_one_refusal(self):
        for n in (6, 7, 9):
            for rows in (([], []), ([0] * 9, [0] * 9), ([2], [0]), ([1], [2]), ([1], []), ([1], [1, 1])):
                self.assertEqual(last(begin(0, [1, 1]), best(n, *rows)), [-1])


if __name__ == "__main__":
    unittest.main()
