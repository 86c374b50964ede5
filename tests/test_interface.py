"""The list of calls and the list of answers."""

import random
import unittest

import model
from gatheredsurely.robots import answers
from lines import CALLS, LARGEST, ask, begun, written

TWELVE = ("begin", "put", "eyes", "tell", "untell", "at", "jump", "ring", "rank", "done", "sure", "longest")


def refuse(*arguments, **named):
    raise AssertionError("what is handed in was changed")


class Untouched(list):
    """A list that can't be changed, not even for a while."""

    append = extend = insert = pop = remove = clear = sort = reverse = refuse
    __setitem__ = __delitem__ = __iadd__ = __imul__ = refuse


class Form(unittest.TestCase):
    def test_answers_lie_one_behind_another_with_their_lengths(self):
        self.assertEqual([1, 0, 1, 0, 4, 3, 0, 2, 0, 1, -2, 1, 0, 1, 1],
                         answers([0, 3, 0, 1, 1, 2, 7, 1, 3, 1, 8, 9]))

    def test_all_are_whole_numbers_in_a_list(self):
        found = answers(written([*begun((1, 1, 0)), ("tell", 0, 2), "ring", "rank", "done", "sure", "longest",
                                 ("at", 2), "sure", "longest", ("jump", 0), "done"]))
        self.assertIs(list, type(found))
        self.assertEqual({int}, {type(number) for number in found})

    def test_ahead_of_a_begin_all_else_is_refused(self):
        for name, count in CALLS[1:]:
            for number in (0, LARGEST):
                with self.subTest(name=name, number=number):
                    call = (name, *[number] * count)
                    self.assertEqual([[-11]], ask(call))
                    self.assertEqual([[-22], [-11], [-11], [0], [3, 0, 0, 0]],
                                     ask(("begin", 2, 0), call, call, ("begin", 3, 0), "ring"))

    def test_what_is_asked_ahead_of_a_begin_changes_nothing(self):
        ahead = [("put", 0, 1), ("eyes", 2), ("tell", 0, 1), ("untell", 0), ("at", 2), ("jump", 0)]
        rest = [("begin", 4, 1), "ring", ("at", 0), ("eyes", 0), ("put", 0, 1), ("untell", 0)]
        self.assertEqual(ask(*rest), ask(*ahead, *rest)[len(ahead):])

    def test_a_line_of_one_call_and_one_of_forty(self):
        self.assertEqual([[0]], ask(("begin", 7, 2)))
        self.assertEqual([[0]] + [[1]] * 39, ask(*begun((1, 0, 0))[:1], *["done"] * 39))

    def test_what_is_handed_in_is_not_changed(self):
        numbers = written([*begun((1, 2, 0, 0)), ("tell", 0, 2), ("at", 1), "sure", "longest", ("jump", 1), "ring",
                           ("put", 9, 9), ("untell", 0), ("eyes", 2), ("begin", 9, 9), "rank", "done"])
        handed = list(numbers)
        answers(handed)
        self.assertEqual(numbers, handed)
        self.assertEqual(answers(numbers), answers(Untouched(numbers)))

    def test_the_same_list_is_answered_alike_twice(self):
        numbers = written([*begun((1, 2, 0, 0)), ("tell", 0, 2), ("at", 2), "sure", "longest", ("jump", 0), "ring"])
        first = answers(numbers)
        first_again = list(first)
        second = answers(numbers)
        self.assertEqual(first_again, second)
        self.assertIsNot(first, second)
        first.clear()
        self.assertEqual(first_again, answers(numbers))

    def test_nothing_is_kept_for_another_list(self):
        answers(written([*begun((1, 2, 0, 0), 2), ("tell", 0, 1), ("at", 2)]))
        self.assertEqual([[-11], [0], [3, 0, 0, 0], [0], [0], [-6], [0]],
                         ask("ring", ("begin", 3, 0), "ring", ("at", 0), ("put", 0, 1), ("untell", 0), ("eyes", 1)))


def random_number(chance, usual):
    return chance.choice([*usual] * 6 + [5, 7, 8, LARGEST, 3])


def random_call(chance, places):
    name = chance.choice(TWELVE + ("put", "put", "tell", "tell", "tell", "jump", "sure", "longest"))
    if name in ("put", "tell"):
        return name, random_number(chance, range(places)), random_number(chance, (0, 1, 1, 2, 2))
    if name == "begin":
        return name, chance.choice((2, 3, 4, 5, 8)), chance.choice((0, 1, 2, 3))
    if name == "untell":
        return name, random_number(chance, range(places))
    if name in ("eyes", "at"):
        return name, random_number(chance, (0, 1, 2))
    if name == "jump":
        return name, random_number(chance, (0, 1, 2, 3, 4, 6))
    return name


def random_line(chance):
    places = chance.choice((3, 4, 5, 5, 6, 7))
    line = [random_call(chance, places)] if chance.random() < 0.2 else []
    line += [("begin", places, chance.choice((0, 1, 2))), ("at", chance.choice((0, 1, 2)))]
    line += [("put", chance.randrange(places), chance.choice((1, 1, 2))) for again in range(2)]
    # A begin in the midst is rare, else most lines would be of new rings alone.
    calls = [random_call(chance, places) for again in range(22)]
    return line + [call for call in calls if call[0] != "begin" or chance.random() < 0.3]


class LikeTheModel(unittest.TestCase):
    def test_lines_of_all_twelve_calls(self):
        chance = random.Random(20)
        for turn in range(250):
            line = random_line(chance)
            with self.subTest(turn=turn):
                self.assertEqual(model.replies(line), ask(*line))


if __name__ == "__main__":
    unittest.main()
