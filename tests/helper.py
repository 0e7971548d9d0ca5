"""Calls as the interface lays them out, answers split call by call, and plain reckonings beside them.

A reckoning asks every possibility that the document's words leave, and draws nothing from the program.
"""

import fractions
import itertools

from wetwalk.hall import answers


def row(numbers):
    return [len(numbers)] + list(numbers)


def begin(place, umbrellas):
    return [0, place] + row(umbrellas)


def go(place, rains, carried=0):
    return [1, place, rains, carried]


def bring(place):
    return [2, place]


def lose(place):
    return [3, place]


def try_ways(route, weather):
    return [4] + row(route) + row(weather)


def least(route, weather):
    return [5] + row(route) + row(weather)


def best(n, route, weather):
    return [6, n] + row(route) + row(weather)


def carried(route, weather):
    return [7] + row(route) + row(weather)


def chance(a, b, route):
    return [8, a, b] + row(route)


def look():
    return [9]


def line(*calls):
    """The calls one behind another, as they are handed in."""
    return [number for call in calls for number in call]


def split(answered):
    """The answers call by call, without how many numbers each has."""
    parts = []
    at = 0
    while at < len(answered):
        end = at + 1 + answered[at]
        if end > len(answered):
            raise ValueError("an answer is shorter than its count tells")
        parts.append(answered[at + 1:end])
        at = end
    return parts


def told(*calls):
    """What is answered to each of these calls."""
    parts = split(answers(line(*calls)))
    if len(parts) != len(calls):
        raise ValueError("there are not as many answers as calls")
    return parts


def last(*calls):
    """What is answered to the last of these calls."""
    return told(*calls)[-1]


def lying(places, *calls):
    """How many umbrellas are at each place after the calls, found by losing them all."""
    found = []
    for place in range(places):
        drain = [lose(place)] * 7
        answered = told(*calls, *drain)[len(calls):]
        found.append(answered.index([-6]))
    return found


def standing(places, *calls):
    """The place where one is after the calls: the one from which an umbrella is taken along."""
    found = []
    for place in range(places):
        # With no umbrella but one, a rainy way is dry from the place of that one alone.
        emptied = [lose(at) for at in range(places) for turn in range(6)]
        if last(*calls, *emptied, bring(place), try_ways([place], [1])) == [0, 0]:
            found.append(place)
    if len(found) != 1:
        raise ValueError("one is at just one place")
    return found[0]


def walked(umbrellas, here, route, weather, taken=None):
    """Of each way whether one gets wet, and whether one takes an umbrella along, umbrella by umbrella."""
    lie = [place for place, many in enumerate(umbrellas) for turn in range(many)]
    wet, along = [], []
    for way, place in enumerate(route):
        wanted = weather[way] == 1 or (taken is not None and taken[way] == 1)
        there = here in lie
        wet.append(1 if weather[way] == 1 and not there else 0)
        along.append(1 if wanted and there else 0)
        if wanted and there:
            lie.remove(here)
            lie.append(place)
        here = place
    return wet, along


def is_dry(umbrellas, here, route, weather):
    return 1 not in walked(umbrellas, here, route, weather)[0]


def reckon_least(places, here, route, weather):
    """Place by place how few will do, however many there are at the others."""
    plenty = len(route)
    needed = []
    for place in range(places):
        rows = [[plenty] * place + [few] + [plenty] * (places - place - 1) for few in range(plenty + 1)]
        needed.append([is_dry(row, here, route, weather) for row in rows].index(True))
    if not is_dry(needed, here, route, weather):
        raise ValueError("what is needed at each place is not enough together")
    return [sum(needed)] + needed


def reckon_best(n, places, here, route, weather):
    """All ways to put n: the fewest wet ways first, then more at the place where they first differ."""
    rows = [row for row in itertools.product(range(n + 1), repeat=places) if sum(row) == n]
    often = {row: sum(walked(row, here, route, weather)[0]) for row in rows}
    good = [row for row in rows if often[row] == min(often.values())]
    return [often[good[0]]] + list(max(good))


def choices_that_count(umbrellas, here, route, weather):
    """Of all choices of ways those on which it's dry and one is there, so that one never gets wet."""
    good = []
    for choice in itertools.product((0, 1), repeat=len(route)):
        wet, along = walked(umbrellas, here, route, weather, choice)
        on_dry_ways = all(weather[way] == 0 for way in range(len(route)) if choice[way] == 1)
        is_there = all(along[way] == 1 for way in range(len(route)) if choice[way] == 1)
        if 1 not in wet and on_dry_ways and is_there:
            good.append(choice)
    return good


def reckon_carried(umbrellas, here, route, weather):
    """Of the choices that count the fewest ways, of these the one with 1 where they first differ."""
    good = choices_that_count(umbrellas, here, route, weather)
    if not good:
        return [-6]
    fewest = min(sum(choice) for choice in good)
    return [fewest] + list(max(choice for choice in good if sum(choice) == fewest))


def reckon_chance(a, b, umbrellas, here, route):
    """All weathers, each with its chance."""
    rain = fractions.Fraction(a, b)
    dry, average = fractions.Fraction(0), fractions.Fraction(0)
    for weather in itertools.product((0, 1), repeat=len(route)):
        weight = rain ** sum(weather) * (1 - rain) ** (len(route) - sum(weather))
        often = sum(walked(umbrellas, here, route, weather)[0])
        dry += weight if often == 0 else 0
        average += weight * often
    return [dry.numerator, dry.denominator, average.numerator, average.denominator]


def routes(places, ways):
    """Each route of so many ways."""
    return [list(route) for route in itertools.product(range(places), repeat=ways)]


def weathers(ways):
    return [list(weather) for weather in itertools.product((0, 1), repeat=ways)]


def many_told(start, calls):
    """What is answered to each of the calls, none of which changes anything, however many they are."""
    parts = []
    for at in range(0, len(calls), 59):
        parts.extend(told(start, *calls[at:at + 59])[1:])
    return parts
