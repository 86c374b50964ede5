"""The list of calls and the list of answers."""

import itertools
import random
import unittest

import model
from gatheredsurely.robots import answers
from lines import CALLS, LARGEST, ask, begun, written

# Every call, on a ring where each has something to answer; those that change it stand last.
EVERY_CALL = [*begun((1, 2, 0, 0)), ("tell", 0, 2), ("at", 1), "ring", "rank", "done", "sure", "longest", "sures",
              "beginnings", "soonest", "bad", "worst", ("ifat", 2), ("iftell", 1, 1), "allat", ("longestof", 1),
              "hopeless", "told", ("jump", 3), "bad", ("put", 9, 9), ("untell", 0), ("eyes", 2), ("begin", 9, 9),
              ("iftell", 0, 3), ("ifat", 3), ("longestof", 9), "worst", "soonest"]


def refuse(*arguments, **named):
    raise AssertionError("what is handed in was changed")


class Untouched(list):
    """A list that can't be changed, not even for a while."""

    append = extend = insert = pop = remove = clear = sort = reverse = refuse
    __setitem__ = __delitem__ = __iadd__ = __imul__ = refuse


class Form(unittest.TestCase):
    def test_answers_lie_one_behind_another_with_their_lengths(self):
        self.assertEqual([1, 0, 1, 0, 4, 3, 0, 2, 0, 1, -2, 1, 0, 1, 1],
                         answers([0, 3, 0, 1, 1, 2, 7, 1, 3, 1, 8, 9]))

    def test_all_are_whole_numbers_in_a_list(self):
        found = answers(written(EVERY_CALL))
        self.assertIs(list, type(found))
        self.assertEqual({int}, {type(number) for number in found})

    def test_how_many_numbers_each_answer_has(self):
        found = ask(*begun((1, 1, 0, 0)), ("at", 2), ("tell", 0, 2), ("tell", 0, 1), "told", "allat", "beginnings",
                    "sures", ("ifat", 0), ("iftell", 0, 2), "bad", "ring", "hopeless", "worst", "soonest",
                    ("longestof", 0), ("longestof", 3), ("ifat", 3))
        self.assertEqual([[4, 0, 2, 2, 0], [1, 1, 1, 3], [0, 2], [1, 0], [1, 0], [1, 0], [2, 1, 1], [4, 1, 1, 0, 0],
                          [1], [1], [-33], [0], [-2], [-22]], found[6:])
        self.assertEqual([1, 0, 4, 1, 1, 1, 1, 2, 1, 0, 5, 3, 1, 0, 0, 1],
                         answers([0, 3, 1, 19, 12, 22])[:16])

    def test_the_numbers_of_the_calls(self):
        self.assertEqual([1, 0, 1, 0, 1, 0, 2, 1, 0, 2, 0, 1, 1, -33, 2, 1, 1, 1, -33, 2, 1, 0, 2, 1, 0],
                         answers([0, 3, 0, 1, 0, 1, 1, 1, 1, 12, 13, 14, 15, 16, 17, 1, 18, 0, 1]))
        self.assertEqual([1, 0, 4, 1, 1, 1, 1, 1, 0, 1, 0, 5, 3, 0, 0, 0, 1], answers([0, 3, 0, 19, 20, 0, 21, 22]))

    def test_ahead_of_a_begin_all_else_is_refused(self):
        for name, count in CALLS[1:]:
            for number in (0, LARGEST):
                with self.subTest(name=name, number=number):
                    call = (name, *[number] * count)
                    self.assertEqual([[-11]], ask(call))
                    self.assertEqual([[-22], [-11], [-11], [0], [3, 0, 0, 0]],
                                     ask(("begin", 2, 0), call, call, ("begin", 3, 0), "ring"))

    def test_what_is_asked_ahead_of_a_begin_changes_nothing(self):
        ahead = [("put", 0, 1), ("eyes", 2), ("tell", 0, 1), ("untell", 0), ("at", 2), ("jump", 0), ("ifat", 2),
                 ("iftell", 0, 1), ("longestof", 0)]
        rest = [("begin", 4, 1), "ring", ("at", 0), ("eyes", 0), ("put", 0, 1), ("untell", 0)]
        self.assertEqual(ask(*rest), ask(*ahead, *rest)[len(ahead):])

    def test_a_line_of_one_call_and_one_of_forty(self):
        self.assertEqual([[0]], ask(("begin", 7, 2)))
        self.assertEqual([[0]] + [[1]] * 39, ask(*begun((1, 0, 0))[:1], *["done"] * 39))

    def test_what_is_handed_in_is_not_changed(self):
        numbers = written(EVERY_CALL)
        handed = list(numbers)
        answers(handed)
        self.assertEqual(numbers, handed)
        self.assertEqual(answers(numbers), answers(Untouched(numbers)))

    def test_the_same_list_is_answered_alike_twice(self):
        numbers = written(EVERY_CALL)
        first = answers(numbers)
        first_again = list(first)
        second = answers(numbers)
        self.assertEqual(first_again, second)
        self.assertIsNot(first, second)
        first.clear()
        self.assertEqual(first_again, answers(numbers))

    def test_nothing_is_kept_for_another_list(self):
        answers(written([*begun((1, 2, 0, 0), 2), ("tell", 0, 1), ("at", 2)]))
        self.assertEqual([[-11], [0], [3, 0, 0, 0], [0], [0], [-6], [0]],
                         ask("ring", ("begin", 3, 0), "ring", ("at", 0), ("put", 0, 1), ("untell", 0), ("eyes", 1)))


ROBOTS = {"tell", "iftell", "put", "untell"}
MODES = {"at", "ifat", "eyes"}
RANKS = {"jump", "longestof"}


def random_number(chance, usual):
    return chance.choice([*usual] * 6 + [5, 7, 8, LARGEST, 3])


def random_call(chance, places):
    name = chance.choice([name for name, count in CALLS] + ["tell"] * 8 + ["jump"] * 4 + ["put"])
    if name == "begin":
        return name, chance.choice((2, 3, 4, 5, 8)), chance.choice((0, 1, 2, 3))
    if name == "untell":
        return name, random_number(chance, range(places))
    if name in ROBOTS:
        return name, random_number(chance, range(places)), random_number(chance, (0, 1, 1, 2, 2))
    if name in MODES:
        return name, random_number(chance, (0, 1, 2))
    if name in RANKS:
        return name, random_number(chance, range(8))
    return (name,)


def random_line(chance):
    places = chance.choice((3, 4, 5, 5, 6, 7))
    line = [random_call(chance, places)] if chance.random() < 0.2 else []
    line += [("begin", places, chance.choice((0, 1, 2))), ("at", chance.choice((0, 1, 2)))]
    line += [("put", chance.randrange(places), chance.choice((1, 1, 2))) for again in range(2)]
    # What makes all new in the midst is rare, else most lines would be of new rings alone.
    calls = [random_call(chance, places) for again in range(28)]
    return line + [call for call in calls if call[0] not in ("begin", "eyes") or chance.random() < 0.3]


class LikeTheModel(unittest.TestCase):
    def test_lines_of_all_calls(self):
        chance = random.Random(20)
        for turn in range(500):
            line = random_line(chance)
            with self.subTest(turn=turn):
                self.assertEqual(model.replies(line), ask(*line))

    def test_every_call_with_every_argument(self):
        numbers = (0, 1, 2, 3, 4, 5, 7, LARGEST)
        for ring in [(0, 0, 0), (1, 0, 0), (1, 2, 0), (1, 1, 0, 0), (1, 0, 1, 0, 2)]:
            line = begun(ring, 1)
            for name, count in CALLS:
                for chosen in itertools.product(numbers, repeat=count):
                    call = (name, *chosen)
                    with self.subTest(ring=ring, call=call):
                        self.assertEqual(model.replies([*line, call, "told"]), ask(*line, call, "told"))


if __name__ == "__main__":
    unittest.main()
