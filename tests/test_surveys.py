"""sures, beginnings, ifat, iftell, allat, longestof."""

import unittest

import model
from lines import LARGEST, ask, asked, begun, last, ruled
from refusals import Leaving
from rules import full_rule, told_of_four

# Two on five places: 0 together, 1 side by side, 2 with one place between.
BESIDE, BETWEEN = (1, 1, 0, 0, 0), (1, 0, 1, 0, 0)
# Both are told to come nearer. One by one that's sure; at once, who are side by side change places.
NEARER = [(BETWEEN, {0: 2}), (BESIDE, {0: 2})]
SURE = ([3, 0, 1, 2], [1, 0], [2, 0, 2])

# Three on six places: the one goes to the two, wherever it is; else nothing is told.
TO_THE_TWO = [((2, 1, 0, 0, 0, 0), {1: 2}), ((2, 0, 1, 0, 0, 0), {2: 2}), ((2, 0, 0, 1, 0, 0), {3: 1})]


class Sures(Leaving):
    def test_as_moves_are(self):
        for mode, wanted in enumerate(SURE):
            self.assertEqual([wanted], asked(ruled(BETWEEN, NEARER, mode), "sures"))

    def test_whichever_of_the_names_it_is(self):
        for ring in [BESIDE, BETWEEN, (0, 0, 2, 0, 0), (0, 1, 0, 0, 1)]:
            for mode, wanted in enumerate(SURE):
                self.assertEqual([wanted], asked(ruled(ring, NEARER, mode), "sures"))

    def test_of_as_many_robots_alone(self):
        line = ruled(BETWEEN, NEARER, 0)
        self.assertEqual([[0], [1, 0]], asked(line, ("put", 4, 1), "sures"))
        self.assertEqual([[1], [1, 0]], asked(line, ("put", 0, 0), "sures"))

    def test_numbers_rise(self):
        # 1, 2 and 4 are the one and the two; 3, 5 and 6 are apart.
        for mode in range(3):
            self.assertEqual([[4, 0, 1, 2, 4]], asked(ruled((1, 1, 1, 0, 0, 0), TO_THE_TWO, mode), "sures"))

    def test_a_rule_that_tells_nothing(self):
        for places in range(3, 8):
            for robots in range(5):
                for mode in range(3):
                    line = [("begin", places, 0), ("put", 0, robots), ("at", mode)]
                    self.assertEqual([[1, 0]], asked(line, "sures"))

    def test_none(self):
        for robots in range(1, 5):
            ring = (0, 0, robots, 0)
            for mode in range(3):
                self.assertEqual([[0]], asked(ruled(ring, [(ring, {2: 1})], mode), "sures"))

    def test_by_what_is_seen(self):
        ring = (1, 2, 0, 0, 0)
        for eyes, wanted in [(0, [2, 0, 1]), (1, [2, 0, 1]), (2, [1, 0])]:
            self.assertEqual([wanted], asked(ruled(ring, [(ring, {0: 2})], 0, eyes), "sures"))

    def test_against_longestof_of_each_name(self):
        for ring, tells in [(BETWEEN, NEARER), ((1, 1, 1, 0, 0, 0), TO_THE_TWO)]:
            count = len(model.names(len(ring), sum(ring)))
            for mode in range(3):
                line = ruled(ring, tells, mode)
                sures, *longest = asked(line, "sures", *[("longestof", rank) for rank in range(count)])
                found = [rank for rank in range(count) if longest[rank] != [-33]]
                self.assertEqual([len(found), *found], sures)


class Beginnings(Leaving):
    def test_no_robots(self):
        for places in range(3, 8):
            self.assertEqual([1, 1], last(("begin", places, 0), "beginnings"))

    def test_one_robot(self):
        for places in range(3, 8):
            ring = (1,) + (0,) * (places - 1)
            self.assertEqual([1, 1], last(*begun(ring), "beginnings"))
            self.assertEqual([0, 1], last(*begun(ring), ("tell", 0, 1), "beginnings"))

    def test_two_robots(self):
        for mode, wanted in enumerate([[2, 2], [0, 2], [1, 2]]):
            for ring in [BESIDE, BETWEEN, (0, 2, 0, 0, 0)]:
                self.assertEqual([wanted], asked(ruled(ring, NEARER, mode), "beginnings"))

    def test_three_robots(self):
        # What gathers surely has two at one place.
        self.assertEqual([[0, 3]], asked(ruled((3, 0, 0, 0, 0, 0), TO_THE_TWO, 0), "beginnings"))
        # The outer ones of three in a row go to the middle, one after the other, or both.
        tells = [((1, 1, 1, 0, 0, 0), {0: 2}), ((2, 1, 0, 0, 0, 0), {1: 2})]
        for mode in range(3):
            self.assertEqual([[1, 3]], asked(ruled((3, 0, 0, 0, 0, 0), tells, mode), "beginnings"))

    def test_four_robots(self):
        self.assertEqual([0, 3], last(*begun((1, 0, 1, 1, 0, 1)), "beginnings"))
        # One of the outer ones goes inward, then one by one they come to that two.
        tells = [((1, 1, 1, 1, 0), {0: 2}), ((0, 2, 1, 1, 0), {2: 2}), ((0, 3, 0, 1, 0), {3: 2}),
                 ((0, 3, 1, 0, 0), {2: 2})]
        for mode, wanted in enumerate([[1, 1], [0, 1], [0, 1]]):
            self.assertEqual([wanted], asked(ruled((0, 0, 4, 0, 0), tells, mode), "beginnings"))
        # All go inward, and then the outer ones again.
        tells = [((0, 0, 1, 1, 0, 1, 1), {2: 2, 3: 1}), ((0, 0, 0, 0, 1, 2, 1), {4: 2})]
        for mode, wanted in enumerate([[0, 4], [0, 4], [1, 4]]):
            self.assertEqual([wanted], asked(ruled((0, 0, 4, 0, 0, 0, 0), tells, mode), "beginnings"))

    def test_four_on_three_places_are_never_apart(self):
        for ring in [(4, 0, 0), (1, 1, 2), (0, 2, 2)]:
            self.assertEqual([0, 0], last(*begun(ring), "beginnings"))

    def test_how_many_there_are(self):
        counts = {3: (1, 1, 1, 1, 0), 4: (1, 1, 2, 1, 1), 5: (1, 1, 2, 2, 1), 6: (1, 1, 3, 3, 3), 7: (1, 1, 3, 4, 4)}
        for places, wanted in counts.items():
            for robots, count in enumerate(wanted):
                with self.subTest(places=places, robots=robots):
                    found = last(("begin", places, 0), ("put", 0, robots), "beginnings")
                    self.assertEqual([count if robots < 2 else 0, count], found)

    def test_apart_is_by_how_many_there_are_and_not_by_what_is_seen(self):
        for eyes in range(3):
            self.assertEqual([0, 2], last(*begun((1, 2, 0, 0, 0), eyes), "beginnings"))


class IfAt(Leaving):
    def test_each_kind_of_moves_whatever_they_are(self):
        for mode in range(3):
            line = ruled(BETWEEN, NEARER, mode)
            self.assertEqual(list(SURE), asked(line, ("ifat", 0), ("ifat", 1), ("ifat", 2)))

    def test_moves_stay(self):
        for mode in range(3):
            for other in range(3):
                found = asked(ruled(BETWEEN, NEARER, mode), ("ifat", other), "sures", "told", ("at", 0))
                self.assertEqual([SURE[other], SURE[mode], [5, 0, mode, 2, 0], [mode]], found)

    def test_changes_nothing(self):
        self.assert_answered([2, 0, 1], ("ifat", 0), ("ifat", 1), ("ifat", 2))

    def test_refusals_change_nothing(self):
        self.assert_refused(-22, ("ifat", 3), ("ifat", 4), ("ifat", LARGEST))


class IfTell(Leaving):
    def test_a_view_of_which_nothing_is_told(self):
        line = ruled(BESIDE, NEARER[:1], 0)
        self.assertEqual([[1, 0], [1, 0], [3, 0, 1, 2], [1, 0]],
                         asked(line, ("iftell", 0, 0), ("iftell", 1, 1), ("iftell", 0, 2), "sures"))

    def test_as_moves_are(self):
        for mode, wanted in enumerate(SURE):
            self.assertEqual([wanted], asked(ruled(BESIDE, NEARER[:1], mode), ("iftell", 1, 2)))

    def test_a_view_that_is_told_already(self):
        line = ruled(BESIDE, NEARER, 0)
        found = asked(line, ("iftell", 0, 0), ("iftell", 0, 1), ("iftell", 0, 2), "sures", ("tell", 0, 2), "sures")
        self.assertEqual([[1, 0], [1, 0], SURE[0], SURE[0], [2], SURE[0]], found)

    def test_to_stay_where_it_is_told_to_go(self):
        ring = (1, 1, 0)
        # Both go round to the empty place, at once.
        line = ruled(ring, [(ring, {0: 1})], 2)
        self.assertEqual([[2, 0, 1], [1, 0], [2, 0, 1], [1]],
                         asked(line, "sures", ("iftell", 0, 0), "sures", ("tell", 0, 1)))
        # All at one place rest, if they are told to stay.
        ring = (0, 0, 2, 0)
        line = ruled(ring, [(ring, {2: 1})], 0)
        self.assertEqual([[0], [1, 0], [0], [0]], asked(line, "sures", ("iftell", 2, 0), "sures", ("untell", 2)))

    def test_to_go_where_all_rest(self):
        self.assertEqual([[0], [1, 0], [-6]], asked(ruled((0, 2, 0), [], 0), ("iftell", 1, 1), "sures", ("untell", 1)))

    def test_the_rule_is_as_it_was(self):
        line = ruled((1, 2, 1, 0, 0), [((1, 2, 1, 0, 0), {0: 2})], 0)
        # Of the two in the middle nothing is told, of the outer ones it is.
        for call in [("iftell", 1, 0), ("iftell", 1, 1), ("iftell", 0, 0), ("iftell", 2, 1)]:
            self.assertEqual([[-6], [2], [0]], asked(line, call, ("untell", 1), ("tell", 2, 2), ("untell", 0))[1:])

    def test_changes_nothing(self):
        self.assert_answered([1, 0], ("iftell", 0, 0), ("iftell", 0, 1))
        self.assert_answered([2, 0, 1], ("iftell", 0, 2), ("iftell", 1, 0))
        # The two and the one change places, for ever.
        self.assert_answered([1, 0], ("iftell", 1, 2))

    def test_with_a_rule_of_24_others(self):
        # One of the 24 is that those with one place between come nearer; the others are of four robots.
        others, place, first = told_of_four(22)
        line = [("begin", 7, 0), ("put", 0, 1), ("put", 2, 1), ("tell", 0, 2), ("put", 0, 3), ("tell", 0, 1), *others]
        line += [("put", 6, 1)]
        self.assertEqual([[7, 0, 0, 0, 0, 0, 1, 1]], asked(line, "ring"))
        self.assertEqual([[3, 0, 1, 2], [-28]], asked(line, ("iftell", 6, 2), ("tell", 6, 2)))
        self.assertEqual([[1, 0], [-6]], asked(line, ("iftell", 5, 1), ("untell", 6)))
        self.assertEqual([[1, 0], [1, 0]], asked(line, ("iftell", 5, 0), "sures"))

    def test_24_are_told_yet_afterwards(self):
        line, place, (rank, known) = full_rule()
        found = asked(line, ("iftell", place, 1), ("jump", rank), ("iftell", known, 0), ("untell", known))
        self.assertEqual([23], found[-1])

    def test_of_one_of_24(self):
        line, place, (rank, known) = full_rule()
        line = [*line, ("jump", rank), ("iftell", known, 2), ("iftell", known, 0), ("tell", known, 1)]
        self.assertEqual(model.replies(line), ask(*line))
        self.assertEqual([1], last(*line))

    def test_refusals_change_nothing(self):
        self.assert_refused(-2, ("iftell", 5, 1), ("iftell", 6, 0), ("iftell", LARGEST, 2))
        self.assert_refused(-33, ("iftell", 2, 1), ("iftell", 4, 0))
        self.assert_refused(-22, ("iftell", 0, 3), ("iftell", 1, LARGEST))

    def test_the_refusal_named_first(self):
        self.assert_refused(-2, ("iftell", 5, 3), ("iftell", LARGEST, LARGEST))
        self.assert_refused(-33, ("iftell", 3, 3), ("iftell", 3, 2), ("iftell", 4, LARGEST))

    def test_even_handed_have_no_other_side(self):
        for ring, place in [((2, 0, 0), 0), ((0, 0, 1, 0), 2), ((1, 0, 1, 0), 0), ((1, 1, 1, 0, 0), 1)]:
            found = asked(begun(ring), ("iftell", place, 2), ("iftell", place, 3), ("untell", place), "sures")
            self.assertEqual([[-22], [-22], [-6], [1, 0]], found)
        for eyes, refused in [(0, False), (1, False), (2, True)]:
            found = last(*begun((1, 2, 0, 1), eyes), ("iftell", 0, 2))
            self.assertEqual(refused, found == [-22])

    def test_refusals_with_a_rule_of_24_others(self):
        line, place, first = full_rule()
        empty = model.replies([*line, "ring"])[-1][1:].index(0)
        self.assertEqual([[-22], [-33], [-2]],
                         asked(line, ("iftell", place, 3), ("iftell", empty, 1), ("iftell", 7, 1)))

    def test_what_sures_would_tell(self):
        for ring, tells in [(BESIDE, NEARER), ((2, 0, 0, 1, 0, 0), TO_THE_TWO), ((1, 1, 1, 0, 0, 0), TO_THE_TWO)]:
            for mode in range(3):
                line = ruled(ring, tells, mode)
                for place in [place for place, count in enumerate(ring) if count]:
                    for done in range(2 if model.even(ring, 0, place) else 3):
                        if_told = asked(line, ("iftell", place, done))
                        self.assertEqual(asked([*line, ("tell", place, done)], "sures"), if_told)


class AllAt(Leaving):
    def test_how_many_of_each_and_how_many_there_are(self):
        for mode in range(3):
            self.assertEqual([[3, 1, 2, 3]], asked(ruled(BETWEEN, NEARER, mode), "allat"))
            self.assertEqual([[4, 4, 4, 7]], asked(ruled((1, 1, 1, 0, 0, 0), TO_THE_TWO, mode), "allat"))

    def test_none(self):
        self.assertEqual([[0, 0, 0, 3]], asked(ruled((0, 2, 0, 0), [((0, 2, 0, 0), {1: 1})]), "allat"))

    def test_how_many_names_there_are(self):
        for places in range(3, 8):
            for robots in range(5):
                self.assertEqual([1, 1, 1, len(model.names(places, robots))],
                                 last(("begin", places, 0), ("put", 0, robots), "allat"))

    def test_against_ifat(self):
        for ring, tells in [(BETWEEN, NEARER), ((1, 1, 1, 0, 0, 0), TO_THE_TWO), ((1, 1, 0), [((1, 1, 0), {0: 1})])]:
            allat, *ifat = asked(ruled(ring, tells, 1), "allat", ("ifat", 0), ("ifat", 1), ("ifat", 2))
            self.assertEqual([answer[0] for answer in ifat], allat[:3])

    def test_changes_nothing(self):
        self.assert_answered([2, 2, 2, 5], "allat")


class LongestOf(Leaving):
    def test_each_name(self):
        for mode, wanted in enumerate([(0, 1, 2), (0, -33, -33), (0, -33, 1)]):
            for ring in [BESIDE, BETWEEN, (0, 0, 2, 0, 0)]:
                found = asked(ruled(ring, NEARER, mode), ("longestof", 0), ("longestof", 1), ("longestof", 2))
                self.assertEqual([[moves] for moves in wanted], found)

    def test_what_longest_tells_of_it(self):
        for mode in range(3):
            line = ruled((1, 1, 1, 0, 0, 0), TO_THE_TWO, mode)
            for rank, wanted in enumerate([0, 1, 2, -33, 3, -33, -33]):
                found = asked(line, ("longestof", rank), ("jump", rank), "longest")
                self.assertEqual([[wanted], [3], [wanted]], found)

    def test_there_is_no_such_name(self):
        for places in range(3, 8):
            for robots in range(5):
                count = len(model.names(places, robots))
                found = ask(("begin", places, 0), ("put", 0, robots), ("longestof", count - 1), ("longestof", count),
                            ("longestof", LARGEST))
                self.assertEqual([[0 if count == 1 else -33], [-2], [-2]], found[2:])

    def test_refusals_change_nothing(self):
        self.assert_refused(-2, ("longestof", 5), ("longestof", 6), ("longestof", LARGEST))
        self.assert_refused(-33, ("longestof", 2), ("longestof", 4))

    def test_changes_nothing(self):
        self.assert_answered([0], ("longestof", 0))
        self.assert_answered([1], ("longestof", 1))


class Asking(Leaving):
    def test_changes_nothing(self):
        self.assert_answered([2, 0, 1], "sures")
        self.assert_answered([0, 2], "beginnings")

    def test_twice_is_answered_alike(self):
        calls = ["sures", ("ifat", 2), "beginnings", ("iftell", 0, 1), "allat", ("longestof", 1)]
        for ring, tells in [(BETWEEN, NEARER), ((1, 1, 1, 0, 0, 0), TO_THE_TWO)]:
            for mode in range(3):
                line = ruled(ring, tells, mode)
                self.assertEqual(asked(line, *calls) * 2, asked(line, *calls * 2))


if __name__ == "__main__":
    unittest.main()
