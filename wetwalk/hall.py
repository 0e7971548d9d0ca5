"""The calls, handed in as one list of numbers, and what is answered to them."""

from wetwalk.ways import after_way, best_put, dry_choices, gets_wet, is_route, is_weather
from wetwalk.ways import least_needed, lowest_terms, weigh_weathers, wet_ways

FEWEST_PLACES = 2
MOST_PLACES = 4
MOST_UMBRELLAS = 6

NOT_GRANTED = -1
NO_SUCH_PLACE = -2
TOO_MANY = -5
NONE_THERE = -6
WET_ANYWAY = -6
NOBODY_THERE = -9

BEGIN = 0
GO = 1
BRING = 2
LOSE = 3
TRY_WAYS = 4
LEAST = 5
BEST = 6
CARRIED = 7
CHANCE = 8

# By a call's number: how many whole numbers it hands over, then how many rows.
SHAPES = (
    (1, 1),
    (3, 0),
    (1, 0),
    (1, 0),
    (0, 2),
    (0, 2),
    (1, 2),
    (0, 2),
    (2, 1),
    (0, 0),
)


class Walker:
    """Somebody among places with umbrellas. Each call answers a list of numbers."""

    def __init__(self):
        self.umbrellas = []
        self.here = 0
        self.gone = 0
        self.wet = 0
        self.come = 0
        self.lost = 0

    def has_begun(self):
        # A begin that isn't refused always sets up places, and none is ever taken away.
        return len(self.umbrellas) > 0

    def has_place(self, place):
        return place < len(self.umbrellas)

    def begin(self, place, umbrellas):
        places = len(umbrellas)
        if places < FEWEST_PLACES or places > MOST_PLACES:
            return [NOT_GRANTED]
        if place >= places or sum(umbrellas) > MOST_UMBRELLAS:
            return [NOT_GRANTED]
        self.umbrellas = list(umbrellas)
        self.here = place
        self.gone = 0
        self.wet = 0
        self.come = sum(umbrellas)
        self.lost = 0
        return [0]

    def go(self, place, rains, carried):
        if not self.has_place(place) or rains > 1 or carried > 1:
            return [NOT_GRANTED]
        wet = gets_wet(self.umbrellas, self.here, rains)
        self.umbrellas = after_way(self.umbrellas, self.here, place, rains, carried)
        self.here = place
        self.gone += 1
        self.wet += wet
        return [wet]

    def bring(self, place):
        if not self.has_place(place):
            return [NO_SUCH_PLACE]
        if sum(self.umbrellas) >= MOST_UMBRELLAS:
            return [TOO_MANY]
        self.umbrellas[place] += 1
        self.come += 1
        return [self.umbrellas[place]]

    def lose(self, place):
        if not self.has_place(place):
            return [NO_SUCH_PLACE]
        if self.umbrellas[place] == 0:
            return [NONE_THERE]
        self.umbrellas[place] -= 1
        self.lost += 1
        return [self.umbrellas[place]]

    def try_ways(self, route, weather):
        wet = wet_ways(self.umbrellas, self.here, route, weather)
        return [sum(wet)] + wet

    def least(self, route, weather):
        needed = least_needed(len(self.umbrellas), self.here, route, weather)
        return [sum(needed)] + needed

    def best(self, n, route, weather):
        if n > MOST_UMBRELLAS:
            return [NOT_GRANTED]
        put = best_put(n, len(self.umbrellas), self.here, route, weather)
        return [sum(wet_ways(put, self.here, route, weather))] + put

    def carried(self, route, weather):
        choices = dry_choices(self.umbrellas, self.here, route, weather)
        if len(choices) == 0:
            return [WET_ANYWAY]
        # Of several that are as few min takes the one that stands ahead.
        fewest = min(choices, key=sum)
        return [sum(fewest)] + fewest

    def chance(self, a, b, route):
        if b == 0 or a > b:
            return [NOT_GRANTED]
        weathers = weigh_weathers(self.umbrellas, self.here, route, a, b)
        whole = sum([weight for weight, wet in weathers])
        dry = sum([weight for weight, wet in weathers if wet == 0])
        wet_in_all = sum([weight * wet for weight, wet in weathers])
        return lowest_terms(dry, whole) + lowest_terms(wet_in_all, whole)

    def look(self):
        return [self.gone, self.wet, self.come, self.lost, self.here] + self.umbrellas


class Reader:
    """Goes through the list of calls from its beginning, and leaves it as it is."""

    def __init__(self, calls):
        self.calls = calls
        self.at = 0

    def is_done(self):
        return self.at >= len(self.calls)

    def take(self):
        number = self.calls[self.at]
        self.at += 1
        return number

    def take_numbers(self, how_many):
        start = self.at
        self.at = start + how_many
        return self.calls[start:self.at]

    def take_rows(self, how_many):
        rows = []
        while len(rows) < how_many:
            rows.append(self.take_numbers(self.take()))
        return rows


def takes_route(call):
    """Whether the call is one of those that a route is handed to, as their first row."""
    return call >= TRY_WAYS and call <= CHANCE


def are_route_rows(rows, places):
    """Whether the rows are a route among so many places and, where it's told, its weather."""
    if not is_route(rows[0], places):
        return False
    return len(rows) == 1 or is_weather(rows[1], rows[0])


def answer_call(walker, call, numbers, rows):
    if call == BEGIN:
        return walker.begin(numbers[0], rows[0])
    if not walker.has_begun():
        return [NOBODY_THERE]
    if takes_route(call) and not are_route_rows(rows, len(walker.umbrellas)):
        return [NOT_GRANTED]
    if call == GO:
        return walker.go(numbers[0], numbers[1], numbers[2])
    if call == BRING:
        return walker.bring(numbers[0])
    if call == LOSE:
        return walker.lose(numbers[0])
    if call == TRY_WAYS:
        return walker.try_ways(rows[0], rows[1])
    if call == LEAST:
        return walker.least(rows[0], rows[1])
    if call == BEST:
        return walker.best(numbers[0], rows[0], rows[1])
    if call == CARRIED:
        return walker.carried(rows[0], rows[1])
    if call == CHANCE:
        return walker.chance(numbers[0], numbers[1], rows[0])
    # The one that's left: no call has a number above 9.
    return walker.look()


def answers(calls):
    """For each call how many numbers are answered to it, then these numbers."""
    walker = Walker()
    reader = Reader(calls)
    answered = []
    while not reader.is_done():
        call = reader.take()
        numbers = reader.take_numbers(SHAPES[call][0])
        rows = reader.take_rows(SHAPES[call][1])
        answer = answer_call(walker, call, numbers, rows)
        answered.append(len(answer))
        answered.extend(answer)
    return answered
