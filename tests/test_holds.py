"""What the document says holds over the whole program: by all rules on small rings, and by some on larger ones."""

import random
import unittest

import model
from lines import asked
from rules import line_of, random_rule, rules_of

OF_EACH_NAME = ("done", "sure", "longest", "soonest", "bad", "worst", "hopeless")
OF_ALL_NAMES = ("sures", "beginnings", "allat")
ONE, SOME, EVERY = range(3)


class Found:
    """What the program answers by a rule, with moves of one kind: of each name, and of all."""

    def __init__(self, rule, places, robots, eyes, mode):
        self.names = model.names(places, robots)
        self.eyes = eyes
        self.told = {model.lesser(ring, eyes, place): done for ring, place, done in rule if done}
        self.mode = mode
        line = line_of(rule, places, robots, eyes, mode)
        answers = asked(line, *OF_ALL_NAMES, *[("ifat", other) for other in range(3)])
        self.sures, self.beginnings, self.allat, *self.ifat = answers
        self.of_each = [self.ask_of(line, rank) for rank in range(len(self.names))]
        self.longest = [answers["longest"][0] for answers in self.of_each]

    def ask_of(self, line, rank):
        # What is asked of a name by its number is asked ahead of the jump there, of whatever ring there is.
        longestof, was, *answers = asked(line, ("longestof", rank), ("jump", rank), *OF_EACH_NAME)
        return {"longestof": longestof, **dict(zip(OF_EACH_NAME, answers))}

    def is_sure(self, rank):
        return self.longest[rank] >= 0

    def nexts(self, rank):
        """The numbers of the names that may come next, by the model."""
        after = model.nexts(self.names[rank], self.eyes, self.told, self.mode)
        return [self.names.index(ring) for ring in after]


class EveryRule(unittest.TestCase):
    def assert_rule(self, rule, places, robots, eyes):
        found = [Found(rule, places, robots, eyes, mode) for mode in range(3)]
        with self.subTest(rule=rule, places=places, eyes=eyes):
            for of_mode in found:
                self.assert_like_the_model(of_mode)
                self.assert_of_all_names(of_mode)
                self.assert_fewer_follow(of_mode)
                self.assert_plays(of_mode)
            self.assert_some_is_hardest(*found)
            self.assert_hopeless_are_never_sure(*found)
        return found

    def assert_like_the_model(self, found):
        for name, answers in zip(found.names, found.of_each):
            second = model.Model(name, found.eyes, found.told, found.mode)
            self.assertEqual({call: second.call(call) for call in OF_EACH_NAME},
                             {call: answers[call] for call in OF_EACH_NAME})
        for call in OF_ALL_NAMES:
            self.assertEqual(second.call(call), getattr(found, call))

    def assert_of_all_names(self, found):
        sure = [rank for rank in range(len(found.names)) if found.is_sure(rank)]
        self.assertEqual([len(sure), *sure], found.sures)
        self.assertEqual(found.sures, found.ifat[found.mode])
        self.assertEqual([*[answer[0] for answer in found.ifat], len(found.names)], found.allat)
        for answers in found.of_each:
            self.assertEqual(answers["longest"], answers["longestof"])
            self.assertEqual(answers["sure"] == [1], answers["longest"] != [-33])
            self.assertEqual(answers["sure"] == [1], answers["bad"] == [-6])
            self.assertEqual(answers["done"] == [1], answers["soonest"] == [0])
            if answers["sure"] == [1]:
                self.assertTrue(0 <= answers["soonest"][0] <= answers["longest"][0])

    def assert_fewer_follow(self, found):
        for rank, moves in enumerate(found.longest):
            after = found.nexts(rank)
            if moves > 0:
                self.assertTrue(all(0 <= found.longest[other] < moves for other in after))
                # And in no fewer moves than told: the worst takes all but one of them yet.
                self.assertEqual(moves - 1, found.longest[found.of_each[rank]["worst"][0]])
            self.assertEqual(after == [], found.of_each[rank]["worst"] == [-33])

    def assert_plays(self, found):
        for rank, answers in enumerate(found.of_each):
            if not found.is_sure(rank):
                count, *play = answers["bad"]
                self.assertEqual(count, len(play))
                self.assertEqual(rank, play[0])
                for name, after in zip(play, play[1:]):
                    self.assertIn(after, found.nexts(name))
                    self.assertEqual([after], found.of_each[name]["worst"])
                self.assertFalse(any(found.is_sure(name) for name in play))
                self.assertEqual(len(play[:-1]), len(set(play[:-1])))
                self.assertTrue(found.nexts(play[-1]) == [] or play[-1] in play[:-1])

    def assert_some_is_hardest(self, one, some, every):
        for rank, moves in enumerate(some.longest):
            if moves >= 0:
                self.assertTrue(0 <= one.longest[rank] <= moves)
                self.assertTrue(0 <= every.longest[rank] <= moves)

    def assert_hopeless_are_never_sure(self, one, some, every):
        for rank, answers in enumerate(one.of_each):
            if answers["hopeless"] == [1]:
                self.assertEqual([0], some.of_each[rank]["sure"])
                self.assertEqual([0], every.of_each[rank]["sure"])

    def assert_rules(self, rules, places, robots, eyes):
        """All the rules; which names gather surely by some of them, with each kind of moves."""
        sure = [set(), set(), set()]
        for rule in rules:
            for mode, found in enumerate(self.assert_rule(rule, places, robots, eyes)):
                sure[mode] |= set(found.sures[1:])
        return sure

    def test_no_robots(self):
        for places in range(3, 8):
            self.assertEqual([{0}] * 3, self.assert_rules([[]], places, 0, 0))

    def test_one_robot(self):
        for places in range(3, 8):
            for eyes in range(3):
                self.assertEqual([{0}] * 3, self.assert_rules(rules_of(places, 1, eyes), places, 1, eyes))

    def test_two_robots(self):
        for places in range(3, 7):
            for eyes in range(3):
                sure = self.assert_rules(rules_of(places, 2, eyes), places, 2, eyes)
                # One by one even those from where it's hopeless else gather by some rule.
                self.assertEqual(set(range(len(model.names(places, 2)))), sure[ONE])

    def test_two_robots_where_it_is_not_hopeless(self):
        # By some rule, if all go, all other rings gather; on odd numbers of places that's all of them.
        for places in (3, 4, 5):
            names = model.names(places, 2)
            sure = self.assert_rules(rules_of(places, 2, 0), places, 2, 0)
            self.assertEqual({rank for rank, name in enumerate(names) if not model.hopeless(name)}, sure[EVERY])

    def test_three_robots_on_three_places(self):
        for eyes in range(3):
            self.assert_rules(rules_of(3, 3, eyes), 3, 3, eyes)

    def test_some_rules_of_three_or_four_robots(self):
        chance = random.Random(11)
        for places, robots in [(4, 3), (3, 4)]:
            for eyes in range(3):
                self.assert_rules(chance.sample(rules_of(places, robots, eyes), 12), places, robots, eyes)

    def test_some_rules_on_larger_rings(self):
        chance = random.Random(7)
        most = [0, 0, 0]
        for turn in range(4):
            for places, robots in [(5, 3), (5, 4), (6, 3), (6, 4), (7, 3), (4, 4)]:
                eyes = chance.choice((0, 0, 1, 2))
                for found in self.assert_rule(random_rule(chance, places, robots, eyes), places, robots, eyes):
                    most[found.mode] = max(most[found.mode], *found.longest)
        # Rules by which nothing gathers would show nothing.
        self.assertGreaterEqual(min(most), 3)


if __name__ == "__main__":
    unittest.main()
