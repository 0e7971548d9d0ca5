"""A line of calls as a whole: its beginning, its refusals, and many lines beside a slow model."""

import pathlib
import random
import subprocess
import sys
import unittest

from helper import begin, best, bring, carried, chance, go, least, line, look, lose, split, told, try_ways
from helper import reckon_best, reckon_carried, reckon_chance, reckon_least, walked
from wetwalk.hall import answers

ROOT = pathlib.Path(__file__).resolve().parent.parent

BAD_BEGINS = (begin(0, []), begin(0, [1]), begin(0, [0] * 5), begin(2, [0, 0]), begin(0, [6, 1]))


class BeforeTheFirstBegin(unittest.TestCase):
    good = [go(1, 1), bring(0), lose(0), try_ways([1], [1]), least([1], [1]),
            best(1, [1], [1]), carried([1], [1]), chance(1, 2, [1]), look()]
    bad = [go(9, 9, 9), go(0, 2), bring(9), lose(9), try_ways([], []), try_ways([9] * 10, [9]),
           least([], [1]), best(9, [], []), carried([9], [9]), chance(1, 0, []), chance(2, 1, [0])]

    def test_all_others_answer_minus_nine(self):
        for call in self.good:
            self.assertEqual(told(call), [[-9]])

    def test_it_is_told_ahead_of_every_other_refusal(self):
        for call in self.bad:
            self.assertEqual(told(call), [[-9]])

    def test_a_refused_begin_answers_its_own_number_and_does_not_count(self):
        for refused in BAD_BEGINS:
            for call in self.good + self.bad:
                self.assertEqual(told(call, refused, call), [[-9], [-1], [-9]])

    def test_what_was_refused_there_is_not_made_up_for(self):
        calls = [bring(0), go(1, 1), begin(0, [0, 0]), lose(0), bring(0), go(1, 1)]
        self.assertEqual(told(*calls), [[-9], [-9], [0], [-6], [1], [0]])

    def test_a_refused_begin_later_does_not_bring_it_back(self):
        for refused in BAD_BEGINS:
            calls = [begin(0, [1, 0]), refused, go(1, 1), lose(1), bring(0), try_ways([0], [1])]
            self.assertEqual(told(*calls), [[0], [-1], [0], [0], [1], [1, 1]])


class HowTheyStand(unittest.TestCase):
    def test_each_answer_behind_its_count(self):
        calls = [0, 0, 2, 1, 0, 1, 1, 1, 0, 2, 0, 3, 0, 3, 0, 4, 2, 0, 1, 2, 1, 1, 4, 0, 0, 2, 7]
        self.assertEqual(answers(calls), [1, 0, 1, 0, 1, 1, 1, 0, 1, -6, 3, 0, 0, 0, 1, -1, 1, -2])

    def test_least_and_best_tell_of_each_place(self):
        calls = [0, 1, 3, 0, 0, 0, 5, 2, 0, 2, 2, 1, 0, 6, 2, 2, 0, 2, 2, 1, 0]
        self.assertEqual(answers(calls), [1, 0, 4, 1, 0, 1, 0, 4, 0, 1, 1, 0])

    def test_carried_tells_of_each_way(self):
        calls = [0, 0, 2, 1, 0, 7, 2, 1, 0, 2, 0, 1, 7, 1, 1, 1, 1, 3, 0, 7, 1, 1, 1, 1]
        self.assertEqual(answers(calls), [1, 0, 3, 1, 1, 0, 2, 0, 0, 1, 0, 1, -6])

    def test_chance_and_look_without_other_counts(self):
        calls = [0, 0, 2, 1, 0, 8, 1, 2, 2, 1, 0, 9, 1, 1, 1, 0, 9]
        self.assertEqual(answers(calls), [1, 0, 4, 3, 4, 1, 4, 7, 0, 0, 1, 0, 0, 1, 0, 1, 0, 7, 1, 0, 1, 0, 1, 0, 1])

    def test_a_refusal_is_its_number_alone(self):
        self.assertEqual(answers(line(try_ways([1], [1]))), [1, -9])
        self.assertEqual(answers(line(begin(5, [1, 1]))), [1, -1])

    def test_rows_longer_than_what_is_granted_are_read_to_their_end(self):
        calls = [begin(0, [3] * 10), begin(0, [1, 0]), try_ways([1] * 10, [2] * 10), go(1, 1)]
        self.assertEqual(told(*calls), [[-1], [0], [-1], [0]])

    def test_empty_rows_are_read_as_such(self):
        calls = [begin(0, []), begin(0, [1, 0]), try_ways([], []), try_ways([], [1]), try_ways([1], []), go(1, 1)]
        self.assertEqual(told(*calls), [[-1], [0], [-1], [-1], [-1], [0]])

    def test_all_calls_are_read_to_their_end(self):
        others = BeforeTheFirstBegin.good + BeforeTheFirstBegin.bad
        self.assertEqual(told(*others, begin(0, [1, 0]), bring(0)), [[-9]] * len(others) + [[0], [2]])

    def test_sixty_calls(self):
        calls = [begin(0, [1, 0])] + [try_ways([1, 0] * 4, [1] * 8)] * 59
        self.assertEqual(told(*calls), [[0]] + [[0] * 9] * 59)
        calls = [begin(0, [0, 0])] + [chance(1, 2, [1, 0] * 4)] * 59
        self.assertEqual(told(*calls), [[0]] + [[1, 256, 4, 1]] * 59)
        calls = [begin(0, [0] * 4)] + [best(6, [1, 0] * 4, [0, 1] * 4)] * 59
        self.assertEqual(told(*calls), [[0]] + [[0, 2, 4, 0, 0]] * 59)
        calls = [begin(0, [6, 0])] + [carried([1, 0] * 4, [0] * 7 + [1])] * 59
        self.assertEqual(told(*calls), [[0]] + [[1, 1] + [0] * 7] * 59)

    def test_the_longest_list(self):
        calls = [best(9, [9] * 10, [9] * 10)] * 60
        self.assertEqual(len(line(*calls)), 1440)
        self.assertEqual(told(*calls), [[-9]] * 60)


class KeptAndChanged(unittest.TestCase):
    calls = line(begin(0, [2, 1, 0]), go(1, 1), bring(2), lose(0), try_ways([2, 0], [1, 1]),
                 least([2, 0], [0, 1]), best(2, [2, 0], [0, 1]), carried([2, 0], [0, 1]), chance(1, 3, [2, 0]), look(),
                 begin(0, [7, 0]), begin(1, [0, 1]), bring(1), go(0, 0, 1), lose(1), look(),
                 carried([0, 1], [1, 1]), lose(0), carried([0, 1], [1, 1]), best(7, [1], [1]), look())

    def test_the_list_stays_as_it_was(self):
        handed_in = list(self.calls)
        answers(handed_in)
        self.assertEqual(handed_in, self.calls)

    def test_it_is_not_changed_for_a_while_either(self):
        class Unchanged(list):
            def refuse(self, *given, **named):
                raise TypeError("the list that is handed in is changed")

            append = extend = insert = pop = remove = clear = sort = reverse = refuse
            __setitem__ = __delitem__ = __iadd__ = __imul__ = refuse

        self.assertEqual(answers(Unchanged(self.calls)), answers(list(self.calls)))

    def test_a_second_time_the_same(self):
        first = answers(self.calls)
        self.assertEqual(answers(self.calls), first)

    def test_what_was_given_back_is_not_kept(self):
        first = answers(self.calls)
        wanted = list(first)
        first.clear()
        self.assertEqual(answers(self.calls), wanted)

    def test_nobody_is_left_from_the_time_before(self):
        answers(line(begin(0, [1, 1]), go(1, 1)))
        self.assertEqual(answers(line(go(1, 1))), [1, -9])

    def test_whole_numbers_in_a_list(self):
        given_back = answers(self.calls)
        self.assertIs(type(given_back), list)
        self.assertEqual({type(number) for number in given_back}, {int})


class NothingElse(unittest.TestCase):
    # In a Python of its own, since the tests have long imported the package.
    script = """
import sys
known = set(sys.modules)
from wetwalk.hall import answers
brought = sorted(name for name in set(sys.modules) - known if name.split(".")[0] != "wetwalk")
sys.stdin = None
sys.addaudithook(lambda event, given: print(event) if event in ("open", "import") else None)
answered = answers([0, 0, 2, 1, 0, 1, 1, 1, 0, 4, 1, 0, 1, 1, 2, 0, 3, 0, 5, 1, 0, 1, 1, 6, 1, 1, 0, 1, 1,
                    7, 1, 0, 1, 1, 8, 1, 2, 1, 0, 9])
sys.stderr.write(repr((brought, answered)))
"""

    answered = [1, 0, 1, 0, 2, 0, 0, 1, 1, 1, 0, 3, 1, 0, 1, 3, 0, 0, 1, 2, 0, 0, 4, 1, 1, 0, 1, 7, 1, 0, 2, 1, 1, 0, 1]

    def test_prints_reads_and_imports_nothing(self):
        ended = subprocess.run([sys.executable, "-B", "-c", self.script], cwd=ROOT, capture_output=True, text=True)
        self.assertEqual(ended.stdout, "")
        self.assertEqual(ended.stderr, repr(([], self.answered)))


class Model:
    """The words of the document once more, umbrella by umbrella."""

    def __init__(self):
        self.places = None

    def answer(self, call):
        name, given = call[0], call[1:]
        if name == "begin":
            return self.begin(*given)
        if self.places is None:
            return [-9]
        return getattr(self, name)(*given)

    def begin(self, place, umbrellas):
        if len(umbrellas) not in (2, 3, 4) or place not in range(len(umbrellas)) or sum(umbrellas) > 6:
            return [-1]
        self.places = range(len(umbrellas))
        self.at = place
        self.lie = [where for where in self.places for turn in range(umbrellas[where])]
        self.gone = []
        self.come = len(self.lie)
        self.lost = 0
        return [0]

    def go(self, place, rains, taken):
        if place not in self.places or rains not in (0, 1) or taken not in (0, 1):
            return [-1]
        wet = 0
        if rains or taken:
            if self.at in self.lie:
                self.lie[self.lie.index(self.at)] = place
            else:
                wet = rains
        self.at = place
        self.gone.append(wet)
        return [wet]

    def bring(self, place):
        if place not in self.places:
            return [-2]
        if len(self.lie) == 6:
            return [-5]
        self.lie.append(place)
        self.come += 1
        return [self.lie.count(place)]

    def lose(self, place):
        if place not in self.places:
            return [-2]
        if place not in self.lie:
            return [-6]
        self.lie.remove(place)
        self.lost += 1
        return [self.lie.count(place)]

    def umbrellas(self):
        return [self.lie.count(place) for place in self.places]

    def refuses(self, route, weather):
        if len(route) not in range(1, 9) or not set(route) <= set(self.places):
            return True
        return len(weather) != len(route) or not set(weather) <= {0, 1}

    def try_ways(self, route, weather):
        if self.refuses(route, weather):
            return [-1]
        wet = walked(self.umbrellas(), self.at, route, weather)[0]
        return [sum(wet)] + wet

    def least(self, route, weather):
        if self.refuses(route, weather):
            return [-1]
        return reckon_least(len(self.places), self.at, route, weather)

    def best(self, n, route, weather):
        if self.refuses(route, weather) or n > 6:
            return [-1]
        return reckon_best(n, len(self.places), self.at, route, weather)

    def carried(self, route, weather):
        if self.refuses(route, weather):
            return [-1]
        return reckon_carried(self.umbrellas(), self.at, route, weather)

    def chance(self, a, b, route):
        if self.refuses(route, [0] * len(route)) or b == 0 or a > b:
            return [-1]
        return reckon_chance(a, b, self.umbrellas(), self.at, route)

    def look(self):
        return [len(self.gone), sum(self.gone), self.come, self.lost, self.at] + self.umbrellas()


class BesideTheModel(unittest.TestCase):
    laid_out = {"begin": begin, "go": go, "bring": bring, "lose": lose, "try_ways": try_ways, "least": least,
                "best": best, "carried": carried, "chance": chance, "look": look}
    names = ("begin", "go", "go", "go", "go", "bring", "lose", "try_ways", "try_ways", "least", "best", "carried",
             "carried", "chance", "look", "look")
    refusals = {"begin": (-1,), "go": (-1,), "bring": (-2, -5), "lose": (-2, -6), "try_ways": (-1,), "least": (-1,),
                "best": (-1,), "carried": (-1, -6), "chance": (-1,), "look": ()}

    def some_route(self, source, top):
        ways = source.randint(0, 10) if source.random() < 0.2 else source.randint(1, 6)
        return [source.randint(0, source.choice((1, top))) for way in range(ways)]

    def some_weather(self, source, ways):
        if source.random() < 0.1:
            ways = source.randint(0, 10)
        bit = 9 if source.random() < 0.05 else 1
        return [source.randint(0, bit) for way in range(ways)]

    def chosen(self, source):
        """A call; now and then one of its numbers goes up to 9, or a row is as long as it likes."""
        top = 9 if source.random() < 0.1 else 3
        place = source.randint(0, top)
        route = self.some_route(source, top)
        weather = self.some_weather(source, len(route))
        name = source.choice(self.names)
        if name == "begin":
            places = source.randint(0, 10) if source.random() < 0.2 else source.randint(2, 4)
            return (name, place, [source.choice((0, 0, 1, 2, top)) for turn in range(places)])
        if name == "go":
            bit = 9 if source.random() < 0.05 else 1
            return (name, place, source.randint(0, bit), source.randint(0, bit))
        if name == "best":
            return (name, source.choice((0, 1, 1, 2, 2, 3, 4, 6, 7, 9)), route, weather)
        if name == "chance":
            b = source.randint(0, 9)
            return (name, source.randint(0, min(b + 1, 9)), b, route)
        return {"look": (name,), "bring": (name, place), "lose": (name, place)}.get(name, (name, route, weather))

    def test_many_lines(self):
        source = random.Random(20261118)
        seen = set()
        for turn in range(800):
            calls = [self.chosen(source) for step in range(source.randint(1, 60))]
            model = Model()
            wanted = [model.answer(call) for call in calls]
            handed_in = line(*[self.laid_out[call[0]](*call[1:]) for call in calls])
            self.assertEqual(split(answers(handed_in)), wanted, handed_in)
            seen.update((call[0], answer[0]) for call, answer in zip(calls, wanted))
        for name, refusals in self.refusals.items():
            for number in refusals:
                self.assertIn((name, number), seen)
            self.assertEqual((name, -9) in seen, name != "begin")
            self.assertTrue([number for of, number in seen if of == name and number >= 0])
        for pair in (("go", 1), ("try_ways", 5), ("least", 3), ("best", 3), ("carried", 2), ("look", 8)):
            self.assertIn(pair, seen)


if __name__ == "__main__":
    unittest.main()
