"""Point 8: carried."""

import itertools
import random
import unittest

from helper import begin, bring, carried, go, last, lose, many_told, reckon_carried, routes, told, weathers
from helper import choices_that_count
from wetwalk.ways import dry_choices


class Enough(unittest.TestCase):
    def test_how_many_then_of_each_way(self):
        self.assertEqual(last(begin(0, [1, 0]), carried([1, 0], [0, 1])), [1, 1, 0])
        self.assertEqual(last(begin(0, [1, 0, 0]), carried([1, 2, 0], [0, 0, 1])), [2, 1, 1, 0])

    def test_nothing_needs_to_be_carried(self):
        self.assertEqual(last(begin(0, [1, 0]), carried([1, 0], [1, 1])), [0, 0, 0])
        self.assertEqual(last(begin(0, [0, 0]), carried([1, 0, 1], [0, 0, 0])), [0, 0, 0, 0])
        self.assertEqual(last(begin(0, [6, 0]), carried([1, 0] * 4, [0] * 8)), [0] * 9)
        self.assertEqual(last(begin(0, [1, 1]), carried([1, 0], [0, 1])), [0, 0, 0])

    def test_only_a_later_dry_way_will_do(self):
        self.assertEqual(last(begin(0, [0, 1]), carried([1, 0, 1], [0, 0, 1])), [1, 0, 1, 0])
        self.assertEqual(last(begin(0, [1, 0]), carried([1, 0, 1], [1, 0, 1])), [1, 0, 1, 0])
        # Carried on the first it would be missing in the rain behind it.
        self.assertEqual(last(begin(0, [1, 0]), carried([0, 1, 0, 1], [0, 1, 0, 1])), [1, 0, 0, 1, 0])

    def test_rain_on_the_way_takes_one_along_uncounted(self):
        self.assertEqual(last(begin(0, [1, 0]), carried([1, 0, 1, 0], [0, 1, 0, 1])), [2, 1, 0, 1, 0])

    def test_fewest_though_an_earlier_way_has_one_there(self):
        self.assertEqual(last(begin(0, [1, 1, 0]), carried([1, 2, 0], [0, 0, 1])), [1, 0, 1, 0])

    def test_to_the_place_where_one_is(self):
        self.assertEqual(last(begin(0, [1, 0]), carried([0, 0, 1], [0, 1, 1])), [0, 0, 0, 0])
        self.assertEqual(last(begin(0, [1, 0]), carried([0, 1, 0], [0, 0, 1])), [1, 0, 1, 0])

    def test_one_way_and_eight(self):
        self.assertEqual(last(begin(0, [1, 0]), carried([1], [0])), [0, 0])
        self.assertEqual(last(begin(0, [1, 0]), carried([1], [1])), [0, 0])
        self.assertEqual(last(begin(0, [1, 0]), carried([1, 0] * 4, [1, 0] * 4)), [3, 0, 1, 0, 1, 0, 1, 0, 0])
        self.assertEqual(last(begin(3, [0, 0, 0, 6]), carried([2, 1, 0, 3] * 2, [0, 0, 0, 0, 0, 0, 0, 1])),
                         [3, 1, 1, 1, 0, 0, 0, 0, 0])

    def test_from_where_one_is_with_the_umbrellas_as_they_are(self):
        asked = carried([0, 1], [0, 1])
        calls = [begin(0, [1, 0]), go(1, 1), asked, bring(0), asked, lose(0), lose(1), asked]
        self.assertEqual(told(*calls)[2:], [[1, 1, 0], [1], [0, 0, 0], [0], [0], [-6]])


class AsFew(unittest.TestCase):
    def test_the_one_that_has_one_where_they_first_differ(self):
        self.assertEqual(last(begin(0, [1, 0]), carried([1, 0, 1, 0], [0, 0, 0, 1])), [1, 1, 0, 0, 0])
        self.assertEqual(last(begin(0, [2, 0]), carried([1, 0, 1, 0, 1, 0], [0, 0, 0, 1, 0, 0])),
                         [1, 1, 0, 0, 0, 0, 0])

    def test_where_they_first_differ_is_behind_the_first_way(self):
        calls = [begin(0, [0, 1]), carried([1, 0, 1, 0, 1], [0, 0, 0, 0, 1])]
        self.assertEqual(last(*calls), [1, 0, 1, 0, 0, 0])

    def test_two_of_three_dry_ways(self):
        calls = [begin(0, [3, 0]), carried([1, 0] * 4, [0, 0, 0, 0, 0, 1, 0, 1])]
        self.assertEqual(last(*calls), [2, 1, 0, 1, 0, 0, 0, 0, 0])


class WetAnyway(unittest.TestCase):
    def test_no_umbrella_at_all(self):
        self.assertEqual(last(begin(0, [0, 0]), carried([1], [1])), [-6])
        self.assertEqual(last(begin(0, [0] * 4), carried([3] * 8, [0] * 7 + [1])), [-6])

    def test_none_is_there_on_the_first_way(self):
        self.assertEqual(last(begin(0, [0, 6]), carried([1, 0], [1, 0])), [-6])

    def test_none_can_be_there_when_it_rains(self):
        self.assertEqual(last(begin(0, [1, 0, 5]), carried([1, 0, 1, 0], [0, 1, 1, 1])), [1, 1, 0, 0, 0])
        self.assertEqual(last(begin(0, [0, 0, 6]), carried([1, 0, 1, 0], [0, 0, 0, 1])), [-6])

    def test_wet_in_the_last_rain_alone(self):
        self.assertEqual(last(begin(0, [0, 1, 0]), carried([1, 0, 2, 0, 2, 1], [0, 1, 1, 1, 1, 1])), [0] * 7)
        self.assertEqual(last(begin(2, [0, 1, 0]), carried([1, 2, 0, 0, 1], [0, 1, 1, 0, 1])), [0] * 6)
        self.assertEqual(last(begin(2, [0, 0, 0]), carried([1, 2, 0, 0, 1], [0, 0, 0, 0, 1])), [-6])

    def test_nothing_changes(self):
        asked = carried([1, 0], [1, 1])
        calls = [begin(0, [0, 1]), asked, asked, go(1, 0), lose(0), lose(1)]
        self.assertEqual(told(*calls), [[0], [-6], [-6], [0], [-6], [0]])

    def test_a_bad_route_or_weather_is_told_ahead_of_it(self):
        for rows in (([], []), ([1], []), ([1] * 9, [1] * 9), ([2], [1]), ([1, 1], [1, 2]), ([1], [1, 1])):
            self.assertEqual(last(begin(0, [0, 0]), carried(*rows)), [-1])


class ByItsWords(unittest.TestCase):
    def assert_as_reckoned(self, here, umbrellas, asked):
        answered = many_told(begin(here, umbrellas), [carried(*rows) for rows in asked])
        for rows, answer in zip(asked, answered):
            self.assertEqual(answer, reckon_carried(umbrellas, here, *rows), (here, umbrellas, rows))

    def test_all_short_routes(self):
        for places, ways, most in ((2, 1, 2), (2, 4, 2), (3, 3, 1), (4, 2, 1)):
            asked = [(route, weather) for route in routes(places, ways) for weather in weathers(ways)]
            for umbrellas in itertools.product(range(most + 1), repeat=places):
                self.assert_as_reckoned(0, umbrellas, asked)
                self.assert_as_reckoned(places - 1, umbrellas, asked)

    def test_many_long_routes(self):
        source = random.Random(8)
        found = set()
        for turn in range(500):
            places = source.randint(2, 4)
            ways = source.randint(5, 8)
            umbrellas = [source.choice((0, 0, 1, 1)) for place in range(places)]
            route = [source.randrange(places) for way in range(ways)]
            weather = [source.choice((0, 0, 1)) for way in range(ways)]
            here = source.randrange(places)
            self.assert_as_reckoned(here, umbrellas, [(route, weather)])
            found.add(reckon_carried(umbrellas, here, route, weather)[0])
        self.assertLessEqual({-6, 0, 1, 2, 3}, found)

    def test_only_choices_that_count_are_asked(self):
        # More than is needed is never answered, so that this shows here alone.
        for route in routes(2, 4):
            for weather in weathers(4):
                for umbrellas in ([0, 0], [1, 0], [0, 1], [2, 1]):
                    found = [tuple(choice) for choice in dry_choices(umbrellas, 0, route, weather)]
                    wanted = choices_that_count(umbrellas, 0, route, weather)
                    self.assertEqual(found, sorted(wanted, reverse=True))

    def test_gone_as_it_is_told_one_stays_dry(self):
        route = [1, 2, 0, 1, 0, 2, 1]
        for weather in weathers(7):
            start = begin(0, [1, 0, 1])
            answered = last(start, carried(route, weather))
            if answered != [-6]:
                ways = [go(*way) for way in zip(route, weather, answered[1:])]
                self.assertEqual(told(start, *ways)[1:], [[0]] * 7)


if __name__ == "__main__":
    unittest.main()
