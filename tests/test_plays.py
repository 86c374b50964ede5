"""soonest, worst, bad, hopeless, told."""

import unittest

import model
from lines import LARGEST, ask, asked, begun, last, ruled
from refusals import Leaving

# Two on five places: 0 together, 1 side by side, 2 with one place between.
TOGETHER, BESIDE, BETWEEN = (0, 0, 0, 0, 2), (0, 0, 0, 1, 1), (0, 0, 1, 0, 1)
PART = (TOGETHER, {4: 1})
BESIDE_INWARD, BESIDE_OUTWARD = (BESIDE, {3: 2}), (BESIDE, {3: 1})
# Between two places that are left out and one, the lesser row begins with the two.
BETWEEN_INWARD, BETWEEN_OUTWARD = (BETWEEN, {2: 2}), (BETWEEN, {2: 1})

# Two of four beside the other two, who are together: they go there, but who is left behind isn't told to.
BY_LUCK = [((2, 1, 0, 0, 1), {1: 2})]

# Of (0, 1, 0, 1, 2), if some go, the names 1, 3 and 5 may come next; they take 1, 2 and 2 moves yet.
TWO_WORST = [((0, 0, 0, 1, 3), {3: 2}), ((0, 0, 1, 0, 3), {2: 2}), ((0, 0, 1, 2, 1), {2: 2}),
             ((0, 1, 0, 1, 2), {1: 2, 3: 2})]


class Soonest(Leaving):
    def soonest(self, ring, tells, mode, eyes=0):
        return asked(ruled(ring, tells, mode, eyes), "soonest")[0]

    def test_at_rest_together_it_is_no_move(self):
        for mode in range(3):
            for ring in [(0, 0, 0), (0, 1, 0, 0), (0, 2, 0), (0, 0, 0, 3, 0), (4, 0, 0, 0, 0, 0, 0)]:
                self.assertEqual([0], self.soonest(ring, [], mode))
            self.assertEqual([0], self.soonest(TOGETHER, [BESIDE_INWARD], mode))

    def test_no_choice_comes_to_rest(self):
        for mode in range(3):
            self.assertEqual([-33], self.soonest(BESIDE, [], mode))
            self.assertEqual([-33], self.soonest((1, 0, 0), [((1, 0, 0), {0: 1})], mode))
            self.assertEqual([-33], self.soonest(BETWEEN, [BETWEEN_OUTWARD], mode))
            # They come together, but don't rest there.
            self.assertEqual([-33], self.soonest(BESIDE, [BESIDE_INWARD, PART], mode))

    def test_as_moves_are(self):
        # Who are beside each other change places, if both must go.
        self.assertEqual([1], self.soonest(BESIDE, [BESIDE_INWARD], 0))
        self.assertEqual([1], self.soonest(BESIDE, [BESIDE_INWARD], 1))
        self.assertEqual([-33], self.soonest(BESIDE, [BESIDE_INWARD], 2))
        # One by one, from between, takes two moves; at once it's one.
        self.assertEqual([2], self.soonest(BETWEEN, [BETWEEN_INWARD, BESIDE_INWARD], 0))
        self.assertEqual([1], self.soonest(BETWEEN, [BETWEEN_INWARD, BESIDE_INWARD], 1))
        self.assertEqual([1], self.soonest(BETWEEN, [BETWEEN_INWARD, BESIDE_INWARD], 2))

    def test_a_helping_choice_where_it_is_not_sure(self):
        for ring, tells, mode, moves in [(BESIDE, [BESIDE_INWARD], 1, 1), (BETWEEN, [BETWEEN_INWARD], 1, 1),
                                         ((2, 1, 0, 0, 1), BY_LUCK, 1, 1),
                                         ((1, 0, 1, 0), [((1, 0, 1, 0), {0: 1})], 2, 1)]:
            self.assertEqual([[0], [-33], [moves]],
                             asked(ruled(ring, tells, mode), "sure", "longest", "soonest"))
        self.assertEqual([-33], self.soonest((2, 1, 0, 0, 1), BY_LUCK, 0))

    def test_the_fewest_moves_where_it_is_sure(self):
        self.assertEqual([[3], [1], [2]], asked(ruled((0, 1, 0, 1, 2), TWO_WORST, 1), "longest", "sure", "soonest"))

    def test_a_round_on_the_way(self):
        # Together, they part, and from beside each other they may come to be between, and back.
        self.assertEqual([-33], self.soonest(TOGETHER, [PART, BESIDE_OUTWARD, BETWEEN_INWARD], 0))
        self.assertEqual([1], self.soonest(BETWEEN, [BETWEEN_INWARD, BESIDE_OUTWARD], 1))

    def test_by_what_is_seen(self):
        ring = (1, 2, 0, 0, 0)
        # Who can't tell one from two changes places, unless whoever chooses helps.
        self.assertEqual([[0], [1]], asked(ruled(ring, [(ring, {0: 2})], 1, 2), "sure", "soonest"))
        self.assertEqual([[1], [1]], asked(ruled(ring, [(ring, {0: 2})], 1, 1), "sure", "soonest"))


class Worst(Leaving):
    def worst(self, ring, tells, mode, eyes=0):
        return asked(ruled(ring, tells, mode, eyes), "worst")[0]

    def test_nobody_is_eager(self):
        for mode in range(3):
            for ring in [(0, 0, 0), (0, 1, 0, 0), (0, 3, 0), BESIDE, (1, 1, 1, 0, 0, 1, 0)]:
                self.assertEqual([-33], self.worst(ring, [], mode))
            self.assertEqual([-33], self.worst(BETWEEN, [BESIDE_INWARD, (BETWEEN, {2: 0})], mode))

    def test_some_next_name_does_not_gather_surely(self):
        # Both, or one of them, come to the two; then it's 00004, or 00013, which stands still.
        self.assertEqual([1], self.worst((2, 1, 0, 0, 1), BY_LUCK, 0))
        self.assertEqual([1], self.worst((2, 1, 0, 0, 1), BY_LUCK, 1))
        # If both go they are together; if one does they are side by side, and stay so.
        self.assertEqual([1], self.worst(BETWEEN, [BETWEEN_INWARD], 1))

    def test_the_first_of_several_that_do_not(self):
        # One goes, and they're side by side; or both do, by one side, or by both: then one place is between.
        self.assertEqual([1], self.worst(TOGETHER, [PART], 0))
        self.assertEqual([0], self.worst(TOGETHER, [PART], 1))
        self.assertEqual([0], self.worst(TOGETHER, [PART], 2))
        # Of 1, 3 and 5, only 1 gathers surely.
        self.assertEqual([3], self.worst((0, 1, 0, 1, 2), [TWO_WORST[0], TWO_WORST[3]], 1))
        self.assertEqual([5], self.worst((0, 1, 0, 1, 2), [TWO_WORST[0], TWO_WORST[1], TWO_WORST[3]], 1))

    def test_what_gathers_surely_is_passed_over(self):
        # 0 may come next and is at rest; so may 1, which isn't.
        found = asked(ruled((2, 1, 0, 0, 1), BY_LUCK, 1), "worst", "sures", ("longestof", 0), ("longestof", 1))
        self.assertEqual([[1], [1, 0], [0], [-33]], found)

    def test_all_gather_surely(self):
        self.assertEqual([0], self.worst((2, 1, 0, 0, 1), BY_LUCK, 2))
        self.assertEqual([1], self.worst(BETWEEN, [BETWEEN_INWARD, BESIDE_INWARD], 0))
        self.assertEqual([0], self.worst(BETWEEN, [BETWEEN_INWARD, BESIDE_INWARD], 2))

    def test_several_take_the_most_moves(self):
        line = ruled((0, 1, 0, 1, 2), TWO_WORST, 1)
        found = asked(line, "sure", ("longestof", 1), ("longestof", 3), ("longestof", 5), "worst")
        self.assertEqual([[1], [1], [2], [2], [3]], found)

    def test_all_take_as_many_moves(self):
        # All go: together to one side, or they part; then it's 1, or 3, and one move more.
        tells = [((0, 0, 1, 2), {2: 2}), ((0, 1, 0, 2), {3: 1}), ((0, 1, 1, 1), {1: 2})]
        found = asked(ruled((0, 1, 0, 2), tells, 2), ("longestof", 1), ("longestof", 3), "longest", "worst")
        self.assertEqual([[1], [1], [2], [1]], found)

    def test_the_most_moves_and_not_the_last(self):
        # 1 takes one move yet, and 0 none: the most is what counts, whichever comes first.
        tells = [((2, 1, 0, 0, 1), {1: 2}), ((3, 1, 0, 0, 0), {1: 2})]
        self.assertEqual([1], self.worst((2, 1, 0, 0, 1), tells, 1))

    def test_one_that_goes_for_ever(self):
        for mode in range(3):
            self.assertEqual([0], self.worst((0, 1, 0, 0), [((1, 0, 0, 0), {0: 1})], mode))


class Bad(Leaving):
    def bad(self, ring, tells, mode, eyes=0):
        return asked(ruled(ring, tells, mode, eyes), "bad")[0]

    def test_what_gathers_surely_has_no_such_play(self):
        self.assert_refused(-6, "bad")
        for mode in range(3):
            for ring in [(0, 0, 0), (0, 1, 0, 0), (0, 3, 0)]:
                self.assertEqual([-6], self.bad(ring, [], mode))
        self.assertEqual([-6], self.bad(BESIDE, [BESIDE_INWARD], 0))
        self.assertEqual([-6], self.bad(BETWEEN, [BETWEEN_INWARD], 2))

    def test_a_single_name(self):
        for mode in range(3):
            self.assertEqual([1, 1], self.bad(BESIDE, [], mode))
            self.assertEqual([1, 2], self.bad((0, 1, 0, 1, 0), [BESIDE_INWARD], mode))
            self.assertEqual([1, 3], self.bad((1, 1, 1, 0), [], mode))

    def test_one_that_stands_still_apart(self):
        self.assertEqual([2, 1, 2], self.bad(BESIDE, [BESIDE_OUTWARD], 0))
        self.assertEqual([2, 2, 1], self.bad(BETWEEN, [BETWEEN_INWARD], 0))
        self.assertEqual([3, 0, 1, 2], self.bad(TOGETHER, [PART, BESIDE_OUTWARD], 0))
        self.assertEqual([2, 5, 1], self.bad((2, 1, 0, 0, 1), BY_LUCK, 1))

    def test_one_that_goes_round_to_its_first_name(self):
        tells = [BESIDE_OUTWARD, BETWEEN_INWARD]
        self.assertEqual([3, 1, 2, 1], self.bad(BESIDE, tells, 0))
        self.assertEqual([3, 2, 1, 2], self.bad(BETWEEN, tells, 0))

    def test_one_that_goes_round_at_once(self):
        for mode in range(3):
            self.assertEqual([2, 0, 0], self.bad((0, 1, 0), [((1, 0, 0), {0: 1})], mode))
        # They change places.
        self.assertEqual([2, 1, 1], self.bad(BESIDE, [BESIDE_INWARD], 1))
        self.assertEqual([2, 1, 1], self.bad(BESIDE, [BESIDE_INWARD], 2))

    def test_one_that_goes_round_to_a_later_name(self):
        self.assertEqual([4, 0, 1, 2, 1], self.bad(TOGETHER, [PART, BESIDE_OUTWARD, BETWEEN_INWARD], 0))
        self.assertEqual([3, 2, 1, 1], self.bad(BETWEEN, [BETWEEN_INWARD, BESIDE_INWARD], 1))

    def test_the_first_that_does_not_gather_surely(self):
        # Of 0 and 1, if some go, 0 gathers; if they part it doesn't, and then 0 is the first.
        self.assertEqual([2, 1, 1], self.bad(BESIDE, [BESIDE_INWARD], 1))
        self.assertEqual([3, 1, 0, 0], self.bad(BESIDE, [BESIDE_INWARD, PART], 1))
        self.assertEqual([3, 1, 0, 1], self.bad(BESIDE, [BESIDE_INWARD, PART], 0))

    def test_its_name_and_not_the_ring(self):
        for ring in [(1, 1, 0, 0, 0), (1, 0, 0, 0, 1), (0, 1, 1, 0, 0)]:
            self.assertEqual([2, 1, 2], self.bad(ring, [BESIDE_OUTWARD], 0))

    def test_by_what_is_seen(self):
        ring = (1, 2, 0, 0, 0)
        self.assertEqual([2, 1, 1], self.bad(ring, [(ring, {0: 2})], 1, 2))
        self.assertEqual([-6], self.bad(ring, [(ring, {0: 2})], 1, 1))


class Hopeless(Leaving):
    def assert_hopeless(self, answer, *rings):
        """So is each of the rings, however it is turned or mirrored."""
        for ring in rings:
            for other in sorted(model.same_rings(ring)):
                with self.subTest(ring=other):
                    self.assertEqual([answer], last(*begun(other), "hopeless"))

    def test_no_robots(self):
        self.assert_hopeless(0, *[(0,) * places for places in range(3, 8)])

    def test_left_as_it_is_by_a_turning(self):
        self.assert_hopeless(1, (1, 1, 1), (1, 0, 1, 0), (2, 0, 2, 0), (1, 1, 1, 1), (1, 0, 0, 1, 0, 0),
                             (2, 0, 0, 2, 0, 0), (1, 0, 1, 0, 1, 0), (1, 1, 0, 1, 1, 0))

    def test_left_as_it_is_by_a_mirroring_between_places(self):
        self.assert_hopeless(1, (1, 1, 0, 0), (2, 2, 0, 0), (1, 1, 0, 0, 0, 0), (2, 2, 0, 0, 0, 0),
                             (1, 1, 1, 1, 0, 0))

    def test_a_mirroring_that_leaves_a_place_is_not_enough(self):
        self.assert_hopeless(0, (1, 0, 0, 0), (4, 0, 0, 0), (1, 1, 1, 0), (2, 1, 0, 1), (2, 0, 1, 0), (3, 0, 1, 0),
                             (1, 0, 1, 0, 0, 0), (1, 1, 1, 0, 0, 0), (2, 0, 0, 1, 0, 0), (2, 0, 1, 0, 1, 0),
                             (2, 1, 0, 0, 0, 1))

    def test_odd_numbers_of_places(self):
        self.assert_hopeless(0, (1, 1, 0), (2, 1, 1), (2, 2, 0), (1, 1, 0, 0, 0), (1, 0, 1, 0, 0), (2, 2, 0, 0, 0),
                             (1, 1, 1, 1, 0), (1, 1, 0, 0, 0, 0, 0), (1, 1, 1, 1, 0, 0, 0), (1, 0, 1, 0, 1, 0, 1))

    def test_nothing_leaves_it_as_it_is(self):
        self.assert_hopeless(0, (1, 2, 0), (1, 3, 0, 0), (1, 2, 0, 0, 0), (1, 1, 0, 1, 0, 0), (2, 0, 1, 0, 0, 0))

    def test_every_ring(self):
        for places in range(3, 8):
            for robots in range(5):
                for ring in model.rings(places, robots):
                    self.assertEqual([int(model.hopeless(ring))], last(*begun(ring), "hopeless"))

    def test_by_how_many_there_are_and_not_by_what_is_seen(self):
        for eyes in range(3):
            self.assertEqual([0], last(*begun((1, 0, 2, 0), eyes), "hopeless"))
            self.assertEqual([0], last(*begun((1, 3, 0, 0), eyes), "hopeless"))
            self.assertEqual([1], last(*begun((2, 2, 0, 0), eyes), "hopeless"))

    def test_whatever_the_rule_and_the_moves(self):
        # One by one, those side by side gather; it's told to be hopeless all the same.
        ring = (1, 1, 0, 0)
        for mode, sure in [(0, 1), (1, 0), (2, 0)]:
            self.assertEqual([[sure], [1]], asked(ruled(ring, [(ring, {0: 2})], mode), "sure", "hopeless"))


class Told(Leaving):
    def test_a_new_ring(self):
        for places in range(3, 8):
            for eyes in range(3):
                self.assertEqual([places, eyes, 0, 0, 1], last(("begin", places, eyes), "told"))

    def test_all_at_one_place(self):
        for robots in range(1, 5):
            self.assertEqual([5, 0, 0, robots, 1], last(("begin", 5, 0), ("put", 3, robots), "told"))

    def test_robots_at_several_places(self):
        for ring in [(1, 1, 0, 0), (1, 0, 1, 0), (3, 0, 0, 1), (2, 0, 2, 0), (1, 1, 1, 1), (0, 0, 2, 1)]:
            self.assertEqual([4, 1, 0, sum(ring), 0], last(*begun(ring, 1), "told"))

    def test_eyes_and_moves_as_they_are(self):
        found = ask(*begun((1, 2, 0)), ("at", 2), "told", ("eyes", 1), "told", ("at", 1), ("eyes", 2), "told",
                    ("at", 3), ("eyes", LARGEST), ("begin", 2, 0), "told")
        self.assertEqual([[3, 0, 2, 3, 0], [3, 1, 2, 3, 0], [3, 2, 1, 3, 0], [3, 2, 1, 3, 0]],
                         [answer for answer in found if len(answer) == 5])

    def test_together_but_eager_is_at_one_place(self):
        self.assertEqual([[3, 0, 1, 2, 1], [0]], asked(ruled((0, 2, 0), [((0, 2, 0), {1: 1})], 1), "told", "done"))

    def test_as_robots_are_taken_away(self):
        found = ask(*begun((1, 1, 0)), "told", ("put", 0, 0), "told", ("put", 1, 0), "told", ("begin", 6, 2), "told")
        self.assertEqual([[3, 0, 0, 2, 0], [3, 0, 0, 1, 1], [3, 0, 0, 0, 1], [6, 2, 0, 0, 1]],
                         [answer for answer in found if len(answer) == 5])


class Asking(Leaving):
    def test_changes_nothing(self):
        self.assert_answered([1], "soonest")
        self.assert_answered([0], "worst", "hopeless")
        self.assert_answered([5, 1, 2, 3, 0], "told")

    def test_twice_is_answered_alike(self):
        calls = ["soonest", "worst", "bad", "hopeless", "told"]
        for ring, tells, mode in [(BETWEEN, [BETWEEN_INWARD, BESIDE_INWARD], 1), ((2, 1, 0, 0, 1), BY_LUCK, 1),
                                  ((0, 1, 0, 1, 2), TWO_WORST, 1)]:
            line = ruled(ring, tells, mode)
            self.assertEqual(asked(line, *calls) * 2, asked(line, *calls * 2))


if __name__ == "__main__":
    unittest.main()
