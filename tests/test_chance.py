"""Point 9: chance; and fractions in lowest terms."""

import itertools
import math
import random
import unittest

from helper import begin, bring, chance, go, last, lose, many_told, reckon_chance, routes, told, try_ways
from wetwalk.ways import lowest_terms


class Fractions(unittest.TestCase):
    def test_never_wet_then_the_average(self):
        self.assertEqual(last(begin(0, [0, 0]), chance(1, 3, [1])), [2, 3, 1, 3])
        self.assertEqual(last(begin(0, [1, 0]), chance(1, 2, [1, 0])), [3, 4, 1, 4])

    def test_no_umbrella_at_all(self):
        self.assertEqual(last(begin(0, [0, 0]), chance(1, 2, [1, 0])), [1, 4, 1, 1])
        self.assertEqual(last(begin(0, [0] * 4), chance(2, 3, [1] * 8)), [1, 6561, 16, 3])

    def test_enough_umbrellas(self):
        self.assertEqual(last(begin(0, [3, 3]), chance(5, 9, [1, 0, 1, 0])), [1, 1, 0, 1])
        self.assertEqual(last(begin(0, [1, 0]), chance(1, 2, [1])), [1, 1, 0, 1])

    def test_what_it_does_on_one_way_matters_on_the_next(self):
        # Dry ways: 1 by 3, each for itself. Wet on the second in rain behind a dry one: 1 by 3, 2 by 3.
        self.assertEqual(last(begin(0, [1, 0]), chance(2, 3, [1, 0])), [7, 9, 2, 9])

    def test_rain_never(self):
        for b in range(1, 10):
            for umbrellas in ([0, 0], [1, 0], [0, 6]):
                self.assertEqual(last(begin(0, umbrellas), chance(0, b, [1, 0, 1])), [1, 1, 0, 1])

    def test_rain_always(self):
        for b in range(1, 10):
            self.assertEqual(last(begin(0, [0, 0]), chance(b, b, [1, 0, 1])), [0, 1, 3, 1])
            self.assertEqual(last(begin(0, [1, 0]), chance(b, b, [1, 0, 1])), [1, 1, 0, 1])
            self.assertEqual(last(begin(0, [0, 1]), chance(b, b, [1, 0, 1])), [0, 1, 1, 1])

    def test_as_try_tells_where_it_always_rains(self):
        for route in routes(3, 4):
            calls = [begin(1, [0, 0, 1]), try_ways(route, [1] * 4), chance(7, 7, route)]
            tried, chances = told(*calls)[1:]
            self.assertEqual(chances, [1 if tried[0] == 0 else 0, 1, tried[0], 1])

    def test_lowest_terms_however_a_by_b_is_told(self):
        for small, larges in (((1, 2), ((2, 4), (3, 6), (4, 8))), ((1, 3), ((2, 6), (3, 9))),
                              ((2, 3), ((4, 6), (6, 9))), ((1, 4), ((2, 8),)), ((3, 4), ((6, 8),))):
            for route in ([1], [1, 0, 1], [1, 0, 0, 1, 1, 0, 1, 0]):
                wanted = last(begin(0, [1, 0]), chance(*small, route))
                for large in larges:
                    self.assertEqual(last(begin(0, [1, 0]), chance(*large, route)), wanted)

    def test_lowest_terms_that_are_whole_or_smaller_than_they_come(self):
        self.assertEqual(last(begin(0, [0, 0]), chance(1, 4, [1, 1])), [9, 16, 1, 2])
        self.assertEqual(last(begin(0, [0, 0]), chance(3, 4, [1] * 8)), [1, 65536, 6, 1])
        self.assertEqual(last(begin(0, [0, 0]), chance(6, 9, [1, 1, 1])), [1, 27, 2, 1])

    def test_to_the_place_where_one_is(self):
        self.assertEqual(last(begin(1, [0, 1]), chance(1, 2, [1, 1, 1])), [1, 1, 0, 1])
        self.assertEqual(last(begin(1, [1, 0]), chance(1, 2, [1, 1, 1])), [1, 8, 3, 2])

    def test_from_where_one_is_with_the_umbrellas_as_they_are(self):
        asked = chance(1, 2, [0])
        calls = [begin(0, [1, 0]), asked, go(1, 0), asked, bring(1), asked, lose(1), asked]
        answered = told(*calls)
        self.assertEqual([answered[at] for at in (1, 3, 5, 7)], [[1, 1, 0, 1], [1, 2, 1, 2]] * 2)

    def test_reduced(self):
        for divided in range(40):
            for by in range(1, 40):
                low = lowest_terms(divided, by)
                self.assertEqual(low[0] * by, low[1] * divided)
                self.assertEqual(math.gcd(low[0], low[1]), 1)
        self.assertEqual(lowest_terms(0, 43046721), [0, 1])


class ByItsWords(unittest.TestCase):
    def assert_as_reckoned(self, here, umbrellas, asked):
        answered = many_told(begin(here, umbrellas), [chance(*given) for given in asked])
        for given, answer in zip(asked, answered):
            wanted = reckon_chance(given[0], given[1], umbrellas, here, given[2])
            self.assertEqual(answer, wanted, (here, umbrellas, given))

    def test_every_a_and_b(self):
        asked = [(a, b, [1, 0, 1, 0]) for b in range(1, 10) for a in range(b + 1)]
        for umbrellas in ([0, 0], [1, 0], [0, 2]):
            self.assert_as_reckoned(0, umbrellas, asked)

    def test_all_short_routes(self):
        for places, ways in ((2, 1), (2, 3), (3, 2), (4, 2)):
            asked = [(2, 5, route) for route in routes(places, ways)]
            for umbrellas in itertools.product((0, 1), repeat=places):
                self.assert_as_reckoned(0, umbrellas, asked)
                self.assert_as_reckoned(places - 1, umbrellas, asked)

    def test_many_long_routes(self):
        source = random.Random(9)
        for turn in range(60):
            places = source.randint(2, 4)
            ways = source.randint(4, 8)
            umbrellas = [source.choice((0, 0, 1)) for place in range(places)]
            route = [source.randrange(places) for way in range(ways)]
            b = source.randint(1, 9)
            self.assert_as_reckoned(source.randrange(places), umbrellas, [(source.randint(0, b), b, route)])

    def test_the_largest_numbers(self):
        self.assert_as_reckoned(0, [1, 0, 0, 0], [(8, 9, [1, 2, 0, 3, 2, 1, 0, 1]), (1, 9, [3, 0] * 4)])


class Refused(unittest.TestCase):
    def test_b_is_zero(self):
        for a in range(10):
            self.assertEqual(last(begin(0, [1, 1]), chance(a, 0, [1])), [-1])

    def test_a_is_above_b(self):
        for b in range(10):
            for a in range(b + 1, 10):
                self.assertEqual(last(begin(0, [1, 1]), chance(a, b, [1])), [-1])

    def test_a_equal_to_b_is_granted(self):
        for b in range(1, 10):
            self.assertEqual(last(begin(0, [1, 1]), chance(b, b, [1])), [1, 1, 0, 1])

    def test_with_a_bad_route_it_is_one_refusal(self):
        for a, b in ((1, 2), (0, 0), (1, 0), (2, 1), (9, 8)):
            for route in ([], [2], [0, 9], [0] * 9, [9] * 10):
                self.assertEqual(last(begin(0, [1, 1]), chance(a, b, route)), [-1])


if __name__ == "__main__":
    unittest.main()
