"""One way after another: on which one gets wet, and where the umbrellas come to be.

Nothing here changes the umbrellas that are handed to it, so that routes can be
tried without being gone.
"""

FEWEST_WAYS = 1
MOST_WAYS = 8


def is_route(route, places):
    """Whether the route is as many ways as may be, each to one of so many places."""
    if len(route) < FEWEST_WAYS or len(route) > MOST_WAYS:
        return False
    return all([place < places for place in route])


def is_weather(weather, route):
    """Whether the weather tells of each way of the route that it rains, or that it doesn't."""
    if len(weather) != len(route):
        return False
    return all([rains <= 1 for rains in weather])


def gets_wet(umbrellas, here, rains):
    """1 if one gets wet on a way from here, else 0."""
    if rains == 1 and umbrellas[here] == 0:
        return 1
    return 0


def after_way(umbrellas, here, place, rains, carried):
    """The umbrellas at each place, once the way from here to that place has been gone."""
    after = list(umbrellas)
    if after[here] > 0 and (rains == 1 or carried == 1):
        # One by one, since a way may lead to the place where one is.
        after[here] -= 1
        after[place] += 1
    return after


def wet_ways(umbrellas, here, route, weather):
    """Of each way of the route, 1 if one would get wet on it, else 0; nothing is carried."""
    wet = []
    for place, rains in zip(route, weather):
        wet.append(gets_wet(umbrellas, here, rains))
        umbrellas = after_way(umbrellas, here, place, rains, 0)
        here = place
    return wet
