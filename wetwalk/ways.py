"""One way after another: on which one gets wet, and where the umbrellas come to be.

Nothing here changes the umbrellas that are handed to it, so that routes can be
tried without being gone. Umbrellas are told by how many there are at each place.
"""

FEWEST_WAYS = 1
MOST_WAYS = 8


def is_route(route, places):
    """Whether the route is as many ways as may be, each to one of so many places."""
    if len(route) < FEWEST_WAYS or len(route) > MOST_WAYS:
        return False
    return all([place < places for place in route])


def is_weather(weather, route):
    """Whether the weather tells of each way of the route that it rains, or that it doesn't."""
    if len(weather) != len(route):
        return False
    return all([rains <= 1 for rains in weather])


def gets_wet(umbrellas, here, rains):
    """1 if one gets wet on a way from here, else 0."""
    if rains == 1 and umbrellas[here] == 0:
        return 1
    return 0


def after_way(umbrellas, here, place, rains, carried):
    """The umbrellas at each place, once the way from here to that place has been gone."""
    after = list(umbrellas)
    if after[here] > 0 and (rains == 1 or carried == 1):
        # One by one, since a way may lead to the place where one is.
        after[here] -= 1
        after[place] += 1
    return after


def wet_ways(umbrellas, here, route, weather):
    """Of each way of the route, 1 if one would get wet on it, else 0; nothing is carried."""
    wet = []
    for place, rains in zip(route, weather):
        wet.append(gets_wet(umbrellas, here, rains))
        umbrellas = after_way(umbrellas, here, place, rains, 0)
        here = place
    return wet


def least_needed(places, here, route, weather):
    """Of each place how many umbrellas must be there at first, so that one would never get wet."""
    needed = [0] * places
    umbrellas = [0] * places
    for place, rains in zip(route, weather):
        if gets_wet(umbrellas, here, rains) == 1:
            # No way so far has brought one here that's left, so it must have been here from the first.
            needed[here] += 1
            umbrellas[here] += 1
        umbrellas = after_way(umbrellas, here, place, rains, 0)
        here = place
    return needed


def all_put(n, places):
    """Each way to put n umbrellas; of two, the one with more where they first differ stands ahead."""
    started = [[]]
    while len(started[0]) < places - 1:
        longer = []
        for first in started:
            left = n - sum(first)
            longer.extend([first + [left - kept] for kept in range(left + 1)])
        started = longer
    return [first + [n - sum(first)] for first in started]


def best_put(n, places, here, route, weather):
    """The way to put n umbrellas with which one would get wet on the fewest ways."""

    def how_often(umbrellas):
        return sum(wet_ways(umbrellas, here, route, weather))

    # Of several that are as good min takes the one that stands ahead.
    return min(all_put(n, places), key=how_often)


def dry_choices(umbrellas, here, route, weather):
    """Each choice of dry ways on which one is carried, and is there, so that one would never get wet.

    A choice tells of each way 1 or 0; of two, the one with 1 where they first differ stands ahead.
    """
    started = [(umbrellas, [])]
    for place, rains in zip(route, weather):
        longer = []
        for lying, choice in started:
            if rains == 0 and lying[here] > 0:
                longer.append((after_way(lying, here, place, 0, 1), choice + [1]))
            if gets_wet(lying, here, rains) == 0:
                longer.append((after_way(lying, here, place, rains, 0), choice + [0]))
        started = longer
        here = place
    return [choice for lying, choice in started]


def weigh_weathers(umbrellas, here, route, a, b):
    """Of each weather that the route may have, how much it weighs and how often one would get wet.

    Rain weighs a on each way, and none b - a, so that all weathers together weigh b for each way, multiplied.
    """
    started = [(umbrellas, 1, 0)]
    for place in route:
        longer = []
        for lying, weight, wet in started:
            longer.append((after_way(lying, here, place, 0, 0), weight * (b - a), wet))
            longer.append((after_way(lying, here, place, 1, 0), weight * a, wet + gets_wet(lying, here, 1)))
        started = longer
        here = place
    return [(weight, wet) for lying, weight, wet in started]


def lowest_terms(divided, by):
    """The fraction as two numbers; 0 is 0 by 1."""
    common = by
    rest = divided
    while rest > 0:
        smaller = common % rest
        common = rest
        rest = smaller
    return [divided // common, by // common]
