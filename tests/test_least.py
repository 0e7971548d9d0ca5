"""Point 6: least."""

import itertools
import random
import unittest

from helper import begin, bring, go, is_dry, last, least, lose, many_told, reckon_least, routes, told, try_ways
from helper import weathers
from wetwalk.hall import Walker


class Needed(unittest.TestCase):
    def test_how_many_in_all_then_at_each_place(self):
        self.assertEqual(last(begin(0, [0, 0]), least([1], [1])), [1, 1, 0])
        self.assertEqual(last(begin(1, [0, 0]), least([0], [1])), [1, 0, 1])
        self.assertEqual(last(begin(0, [0, 0, 0]), least([1, 2, 0, 1], [1, 0, 1, 0])), [2, 1, 0, 1])

    def test_no_rain_at_all(self):
        for places in (2, 3, 4):
            for ways in (1, 5, 8):
                route = [way % places for way in range(ways)]
                self.assertEqual(last(begin(1, [1] * places), least(route, [0] * ways)), [0] * (places + 1))

    def test_what_is_taken_along_is_used_again(self):
        self.assertEqual(last(begin(0, [0, 0]), least([1, 0] * 4, [1] * 8)), [1, 1, 0])
        self.assertEqual(last(begin(0, [0] * 4), least([1, 2, 3, 0], [1] * 4)), [1, 1, 0, 0, 0])

    def test_rain_in_the_mornings_alone(self):
        self.assertEqual(last(begin(0, [0, 0]), least([1, 0, 1, 0], [1, 0, 1, 0])), [2, 2, 0])
        self.assertEqual(last(begin(0, [0, 0]), least([1, 0] * 4, [1, 0] * 4)), [4, 4, 0])

    def test_rain_in_the_evenings_alone(self):
        self.assertEqual(last(begin(0, [0, 0]), least([1, 0] * 4, [0, 1] * 4)), [4, 0, 4])

    def test_what_lies_there_already_is_used_ahead_of_a_new_one(self):
        calls = [begin(0, [0, 0]), least([1, 0, 1, 0], [1, 0, 0, 1])]
        self.assertEqual(last(*calls), [1, 1, 0])

    def test_to_the_place_where_one_is(self):
        self.assertEqual(last(begin(0, [0, 0]), least([0], [1])), [1, 1, 0])
        self.assertEqual(last(begin(1, [0, 0]), least([1, 1, 1], [1, 0, 1])), [1, 0, 1])
        self.assertEqual(last(begin(1, [0, 0]), least([1] * 8, [1] * 8)), [1, 0, 1])

    def test_four_places(self):
        calls = [begin(3, [0] * 4), least([0, 1, 2, 3, 2, 1, 0, 3], [0, 1, 0, 1, 0, 1, 0, 1])]
        self.assertEqual(last(*calls), [4, 2, 0, 2, 0])

    def test_how_many_there_are_does_not_matter(self):
        asked = least([1, 0, 2, 0, 1], [1, 0, 1, 0, 1])
        for umbrellas in ([0, 0, 0], [6, 0, 0], [0, 6, 0], [2, 2, 2], [1, 0, 0]):
            self.assertEqual(last(begin(0, umbrellas), asked), [3, 3, 0, 0])
        self.assertEqual(told(begin(0, [1, 1, 1]), bring(0), lose(1), asked)[-1], [3, 3, 0, 0])

    def test_from_where_one_is_then(self):
        asked = least([0, 1], [1, 1])
        self.assertEqual(told(begin(0, [1, 1]), asked, go(1, 1), asked)[1:], [[1, 1, 0], [0], [1, 0, 1]])


class ByItsWords(unittest.TestCase):
    def assert_just_enough(self, places, here, route, weather, most):
        answered = last(begin(here, [0] * places), least(route, weather))
        needed = answered[1:]
        self.assertEqual((answered[0], len(needed)), (sum(needed), places))
        for row in itertools.product(range(most + 1), repeat=places):
            enough = all(have >= need for have, need in zip(row, needed))
            self.assertEqual(is_dry(row, here, route, weather), enough, (here, route, weather, row))

    def test_dry_with_as_many_or_more_and_wet_with_fewer_anywhere(self):
        for route in routes(2, 4):
            for weather in weathers(4):
                self.assert_just_enough(2, 0, route, weather, 4)
        for route in routes(3, 3):
            for weather in weathers(3):
                self.assert_just_enough(3, 1, route, weather, 3)

    def test_long_routes_likewise(self):
        source = random.Random(6)
        for turn in range(60):
            places = source.randint(2, 4)
            ways = source.randint(5, 8)
            route = [source.randrange(places) for way in range(ways)]
            weather = [source.randint(0, 1) for way in range(ways)]
            self.assert_just_enough(places, source.randrange(places), route, weather, 5)

    def test_tried_by_the_program_itself(self):
        # With 6 in all at most, so that they can be set up.
        route, weather = [1, 2, 0, 1, 1, 0, 2], [1, 0, 1, 1, 0, 0, 1]
        needed = last(begin(0, [0, 0, 0]), least(route, weather))[1:]
        for row in itertools.product(range(7), repeat=3):
            if sum(row) <= 6:
                wet = last(begin(0, row), try_ways(route, weather))[0]
                self.assertEqual(wet == 0, all(have >= need for have, need in zip(row, needed)), row)

    def test_place_by_place(self):
        for places, ways in ((2, 1), (2, 2), (2, 5), (3, 4), (4, 1), (4, 3)):
            asked = [(route, weather) for route in routes(places, ways) for weather in weathers(ways)]
            for here in range(places):
                answered = many_told(begin(here, [0] * places), [least(*rows) for rows in asked])
                for rows, answer in zip(asked, answered):
                    self.assertEqual(answer, reckon_least(places, here, *rows), (here, rows))


class Most(unittest.TestCase):
    def test_four_are_always_enough(self):
        # On a rainy way one brings an umbrella along for the next: a new one is needed behind a dry way
        # or at the beginning alone, on four of eight ways at most. So more than 6 are never needed.
        found = set()
        for here in (0, 1):
            walker = Walker()
            walker.begin(here, [0, 0])
            for route in routes(2, 8):
                for weather in weathers(8):
                    found.add(walker.least(route, weather)[0])
        self.assertEqual(found, {0, 1, 2, 3, 4})

    def test_four_places_need_no_more(self):
        source = random.Random(66)
        found = set()
        for turn in range(3000):
            places = source.randint(3, 4)
            route = [source.randrange(places) for way in range(8)]
            weather = [source.randint(0, 1) for way in range(8)]
            here = source.randrange(places)
            answered = last(begin(here, [0] * places), least(route, weather))
            self.assertEqual(answered, reckon_least(places, here, route, weather))
            found.add(answered[0])
        self.assertEqual(found, {0, 1, 2, 3, 4})


if __name__ == "__main__":
    unittest.main()
