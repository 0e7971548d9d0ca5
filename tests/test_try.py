"""Point 5: try; and the row of -1 ahead of point 1, of routes and their weather."""

import unittest

from helper import begin, best, carried, chance, go, last, least, lying, standing, told, try_ways
from wetwalk.hall import Walker, are_route_rows, takes_route


class Tried(unittest.TestCase):
    def test_how_often_then_of_each_way(self):
        self.assertEqual(last(begin(0, [1, 0]), try_ways([1, 0, 1, 0], [1, 0, 1, 1])), [1, 0, 0, 1, 0])

    def test_dry_ways_take_none_and_nobody_gets_wet(self):
        self.assertEqual(last(begin(0, [0, 0]), try_ways([1, 0, 1], [0, 0, 0])), [0, 0, 0, 0])
        self.assertEqual(last(begin(0, [1, 0]), try_ways([1, 0], [0, 1])), [1, 0, 1])

    def test_rain_where_there_is_none(self):
        self.assertEqual(last(begin(0, [0, 0, 0]), try_ways([1, 2, 0], [1, 1, 1])), [3, 1, 1, 1])

    def test_what_is_taken_along_is_there_for_the_ways_behind(self):
        self.assertEqual(last(begin(0, [1, 0]), try_ways([1, 0, 1, 0], [1, 1, 1, 1])), [0, 0, 0, 0, 0])

    def test_to_the_place_where_one_is(self):
        self.assertEqual(last(begin(1, [0, 1]), try_ways([1, 1, 0], [1, 1, 1])), [0, 0, 0, 0])
        self.assertEqual(last(begin(1, [1, 0]), try_ways([1, 1, 0], [1, 0, 1])), [2, 1, 0, 1])

    def test_by_a_shop(self):
        calls = [begin(0, [1, 0, 1]), try_ways([1, 2, 0, 1, 2, 0], [0, 1, 1, 1, 0, 1])]
        self.assertEqual(last(*calls), [2, 0, 1, 0, 0, 0, 1])

    def test_one_way_and_eight(self):
        self.assertEqual(last(begin(0, [0, 0]), try_ways([1], [1])), [1, 1])
        self.assertEqual(last(begin(0, [1, 0]), try_ways([1], [1])), [0, 0])
        calls = [begin(0, [1, 0]), try_ways([1, 0] * 4, [1, 0] * 4)]
        self.assertEqual(last(*calls), [3, 0, 0, 1, 0, 1, 0, 1, 0])

    def test_from_where_one_is_then(self):
        calls = [begin(0, [0, 1]), go(1, 0), try_ways([0, 1], [1, 1])]
        self.assertEqual(last(*calls), [0, 0, 0])

    def test_tells_what_going_would(self):
        route = [1, 2, 2, 0, 1, 0, 3, 0]
        for number in range(256):
            weather = [number >> way & 1 for way in range(8)]
            start = begin(0, [1, 0, 1, 0])
            ways = [go(place, rains) for place, rains in zip(route, weather)]
            wet = [answer[0] for answer in told(start, *ways)[1:]]
            self.assertEqual(last(start, try_ways(route, weather)), [sum(wet)] + wet)


class NothingIsGone(unittest.TestCase):
    def test_umbrellas_and_place_stay(self):
        calls = [begin(0, [2, 1, 0]), try_ways([1, 2, 2], [1, 1, 1])]
        self.assertEqual(lying(3, *calls), [2, 1, 0])
        self.assertEqual(standing(3, *calls), 0)

    def test_twice_the_same(self):
        tried = try_ways([1, 0, 1], [1, 0, 1])
        self.assertEqual(told(begin(0, [1, 0]), tried, tried, tried)[1:], [[1, 0, 0, 1]] * 3)

    def test_no_way_is_counted(self):
        walker = Walker()
        walker.begin(0, [0, 0])
        self.assertEqual(walker.try_ways([1, 0], [1, 1]), [2, 1, 1])
        self.assertEqual((walker.gone, walker.wet, walker.come, walker.lost), (0, 0, 0, 0))


class RouteAndWeatherRefused(unittest.TestCase):
    def assert_refused(self, places, call):
        start = begin(1, [1] * places)
        self.assertEqual(last(start, call), [-1])
        self.assertEqual(lying(places, start, call), [1] * places)
        self.assertEqual(standing(places, start, call), 1)

    def assert_all_refused(self, places, route, weather):
        for call in (try_ways, least, carried):
            self.assert_refused(places, call(route, weather))
        self.assert_refused(places, best(2, route, weather))

    def test_calls_that_a_route_is_handed_to(self):
        self.assertEqual([call for call in range(10) if takes_route(call)], [4, 5, 6, 7, 8])

    def test_a_route_without_weather_is_granted_where_none_is_handed_over(self):
        self.assertTrue(are_route_rows([[0, 1, 1]], 2))
        self.assertFalse(are_route_rows([[0, 1, 2]], 2))

    def test_empty_route(self):
        for weather in ([], [0], [1, 1]):
            self.assert_all_refused(2, [], weather)
        self.assert_refused(2, chance(1, 2, []))

    def test_more_than_eight_ways(self):
        for ways in (9, 10):
            self.assert_all_refused(2, [0] * ways, [0] * ways)
            self.assert_all_refused(2, [0] * ways, [0] * 8)
            self.assert_refused(2, chance(1, 2, [0] * ways))

    def test_no_such_place(self):
        for places in (2, 3, 4):
            for place in (places, 9):
                for route in ([place], [place, 0], [0, place], [0, 0, 0, 0, 0, 0, 0, place]):
                    self.assert_all_refused(places, route, [0] * len(route))
                    self.assert_refused(places, chance(1, 2, route))

    def test_weather_longer_or_shorter_than_the_route(self):
        self.assert_all_refused(2, [0, 1], [])
        self.assert_all_refused(2, [0, 1], [1])
        self.assert_all_refused(2, [0, 1], [1, 0, 1])
        self.assert_all_refused(2, [0] * 8, [0] * 7)
        self.assert_all_refused(2, [0] * 8, [0] * 9)
        self.assert_all_refused(2, [0], [0] * 10)

    def test_weather_above_one(self):
        for rains in range(2, 10):
            self.assert_all_refused(2, [1], [rains])
            self.assert_all_refused(2, [1, 0, 1], [1, rains, 0])
            self.assert_all_refused(2, [1, 0, 1], [0, 1, rains])

    def test_several_reasons_are_one_refusal(self):
        self.assert_all_refused(2, [9] * 10, [9] * 5)


if __name__ == "__main__":
    unittest.main()
