"""Calls as the interface lays them out, and answers split call by call."""

from wetwalk.hall import answers


def row(numbers):
    return [len(numbers)] + list(numbers)


def begin(place, umbrellas):
    return [0, place] + row(umbrellas)


def go(place, rains, carried=0):
    return [1, place, rains, carried]


def bring(place):
    return [2, place]


def lose(place):
    return [3, place]


def try_ways(route, weather):
    return [4] + row(route) + row(weather)


def least(route, weather):
    return [5] + row(route) + row(weather)


def best(n, route, weather):
    return [6, n] + row(route) + row(weather)


def carried(route, weather):
    return [7] + row(route) + row(weather)


def chance(a, b, route):
    return [8, a, b] + row(route)


def look():
    return [9]


def line(*calls):
    """The calls one behind another, as they are handed in."""
    return [number for call in calls for number in call]


def split(answered):
    """The answers call by call, without how many numbers each has."""
    parts = []
    at = 0
    while at < len(answered):
        end = at + 1 + answered[at]
        if end > len(answered):
            raise ValueError("an answer is shorter than its count tells")
        parts.append(answered[at + 1:end])
        at = end
    return parts


def told(*calls):
    """What is answered to each of these calls."""
    parts = split(answers(line(*calls)))
    if len(parts) != len(calls):
        raise ValueError("there are not as many answers as calls")
    return parts


def last(*calls):
    """What is answered to the last of these calls."""
    return told(*calls)[-1]


def lying(places, *calls):
    """How many umbrellas are at each place after the calls, found by losing them all."""
    found = []
    for place in range(places):
        drain = [lose(place)] * 7
        answered = told(*calls, *drain)[len(calls):]
        found.append(answered.index([-6]))
    return found


def standing(places, *calls):
    """The place where one is after the calls: the one from which an umbrella is taken along."""
    found = []
    for place in range(places):
        # With no umbrella but one, a rainy way is dry from the place of that one alone.
        emptied = [lose(at) for at in range(places) for turn in range(6)]
        if last(*calls, *emptied, bring(place), try_ways([place], [1])) == [0, 0]:
            found.append(place)
    if len(found) != 1:
        raise ValueError("one is at just one place")
    return found[0]
