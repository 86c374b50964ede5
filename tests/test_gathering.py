"""done, sure, longest, and the corners that the document names."""

import unittest

from lines import ask, asked, begun, last, ruled


def gathered(ring, tells, mode, eyes=0):
    """What done, sure and longest answer on this ring; tells: rings, and what is told there at which places."""
    return [answer[0] for answer in asked(ruled(ring, tells, mode, eyes), "done", "sure", "longest")]


GATHERED = [1, 1, 0]
NEVER = [0, 0, -33]


def surely(moves):
    return [0, 1, moves]


class Corners(unittest.TestCase):
    def assert_modes(self, ring, tells, one, some, every, eyes=0):
        for mode, wanted in enumerate([one, some, every]):
            with self.subTest(ring=ring, mode=mode):
                self.assertEqual(wanted, gathered(ring, tells, mode, eyes))

    def test_no_robots(self):
        for places in range(3, 8):
            for eyes in range(3):
                self.assert_modes((0,) * places, [], GATHERED, GATHERED, GATHERED, eyes)

    def test_no_robots_any_more(self):
        self.assert_modes((0, 0, 0), [((1, 0, 0), {0: 1})], GATHERED, GATHERED, GATHERED)

    def test_one_that_stays(self):
        self.assert_modes((0, 1, 0, 0), [], GATHERED, GATHERED, GATHERED)
        self.assert_modes((0, 1, 0, 0), [((0, 1, 0, 0), {1: 0})], GATHERED, GATHERED, GATHERED)

    def test_one_that_goes_for_ever(self):
        for places in range(3, 8):
            ring = (1,) + (0,) * (places - 1)
            self.assert_modes(ring, [(ring, {0: 1})], NEVER, NEVER, NEVER)

    def test_all_at_one_place_and_at_rest(self):
        for robots in range(1, 5):
            self.assert_modes((0, 0, robots, 0), [], GATHERED, GATHERED, GATHERED)

    def test_all_at_one_place_and_eager(self):
        for robots in range(1, 5):
            for eyes in range(3):
                ring = (0, 0, robots, 0, 0)
                self.assert_modes(ring, [(ring, {2: 1})], NEVER, NEVER, NEVER, eyes)

    def test_a_ring_that_would_gather_where_they_are_eager(self):
        # The two come together, but don't rest there.
        tells = [((1, 1, 0, 0), {0: 2}), ((2, 0, 0, 0), {0: 1})]
        self.assert_modes((1, 1, 0, 0), tells, NEVER, NEVER, NEVER)

    def test_two_across_from_each_other(self):
        for ring in [(1, 0, 1, 0), (1, 0, 0, 1, 0, 0)]:
            self.assertEqual([-22], last(*begun(ring), ("tell", 0, 2)))
            self.assert_modes(ring, [(ring, {0: 1})], NEVER, NEVER, NEVER)

    def test_two_across_where_one_goes_come_side_by_side(self):
        # If both go they may still be across from each other.
        tells = [((1, 0, 1, 0), {0: 1}), ((1, 1, 0, 0), {0: 2})]
        self.assert_modes((1, 0, 1, 0), tells, surely(2), NEVER, NEVER)

    def test_two_at_one_place_part(self):
        # Both may go by one side, and one comes to two from there; or they part, and all three stand apart alike.
        # One alone that goes leaves three in a row of another kind, of which nothing is told.
        tells = [((2, 0, 0, 1, 0, 0), {0: 1}), ((0, 2, 0, 1, 0, 0), {3: 2}), ((0, 2, 1, 0, 0, 0), {2: 2})]
        self.assert_modes((0, 2, 0, 1, 0, 0), tells, surely(2), surely(2), surely(2))
        self.assert_modes((2, 0, 0, 1, 0, 0), tells, NEVER, NEVER, NEVER)
        self.assert_modes((0, 1, 0, 1, 0, 1), tells, NEVER, NEVER, NEVER)

    def test_some_of_those_at_one_place_may_stay(self):
        # The two go to the one; if only one of them does they have changed places.
        tells = [((2, 1, 0, 0, 0), {0: 2})]
        self.assert_modes((2, 1, 0, 0, 0), tells, NEVER, NEVER, surely(1))

    def test_a_rule_that_tells_nothing(self):
        for ring in [(1, 1, 0), (1, 0, 2, 0), (0, 1, 1, 1, 1), (2, 0, 0, 2, 0, 0), (1, 0, 0, 0, 0, 0, 3)]:
            self.assert_modes(ring, [], NEVER, NEVER, NEVER)

    def test_a_rule_that_tells_to_stay(self):
        self.assert_modes((1, 1, 0), [((1, 1, 0), {0: 0})], NEVER, NEVER, NEVER)

    def test_eyes_that_do_not_tell_one_from_two(self):
        ring = (1, 2, 0, 0, 0)
        # Who sees how many goes to the two; who doesn't is told like the two, and they change places.
        self.assert_modes(ring, [(ring, {0: 2})], surely(1), surely(1), surely(1), 0)
        self.assert_modes(ring, [(ring, {0: 2})], surely(1), surely(1), surely(1), 1)
        self.assert_modes(ring, [(ring, {0: 2})], NEVER, NEVER, NEVER, 2)

    def test_eyes_that_do_not_tell_two_from_three(self):
        tells = [((1, 2, 0, 0, 0), {0: 2})]
        self.assert_modes((1, 3, 0, 0, 0), tells, NEVER, NEVER, NEVER, 0)
        self.assert_modes((1, 3, 0, 0, 0), tells, surely(1), surely(1), surely(1), 1)

    def test_its_own_mirror_between_places(self):
        for ring in [(1, 1, 0, 0), (1, 1, 0, 0, 0, 0)]:
            self.assert_modes(ring, [(ring, {0: 2})], surely(1), NEVER, NEVER)
            self.assert_modes(ring, [(ring, {0: 1})], NEVER, NEVER, NEVER)

    def test_its_own_mirror_between_places_goes_outward(self):
        # On four places those side by side that both go outward are side by side again.
        ring = (1, 1, 0, 0)
        self.assert_modes(ring, [(ring, {0: 1}), ((1, 0, 1, 0), {0: 1})], NEVER, NEVER, NEVER)

    def test_three_places(self):
        ring = (1, 1, 0)
        # The lesser row begins at the side of the empty place.
        self.assert_modes(ring, [(ring, {0: 2})], surely(1), NEVER, NEVER)
        self.assert_modes(ring, [(ring, {0: 1})], NEVER, NEVER, surely(1))

    def test_three_at_three_places(self):
        tells = [((1, 1, 1), {0: 1}), ((1, 2, 0), {0: 2})]
        self.assert_modes((1, 1, 1), tells, surely(2), NEVER, NEVER)


class Longest(unittest.TestCase):
    def test_two_with_one_between(self):
        towards = ((1, 0, 1, 0, 0), {0: 2})
        beside = ((1, 1, 0, 0, 0), {0: 2})
        ring = (1, 0, 1, 0, 0)
        self.assertEqual(surely(2), gathered(ring, [towards, beside], 0))
        self.assertEqual(NEVER, gathered(ring, [towards, beside], 1))
        self.assertEqual(surely(1), gathered(ring, [towards, beside], 2))
        self.assertEqual(NEVER, gathered(ring, [towards], 0))
        self.assertEqual(surely(1), gathered(ring, [towards], 2))

    def test_one_walks_to_two_the_short_way_or_the_long(self):
        far = ((2, 0, 1, 0, 0, 0, 0), 2)
        near = ((2, 1, 0, 0, 0, 0, 0), 1)
        farthest = ((2, 0, 0, 1, 0, 0, 0), 3)
        for mode in range(3):
            tells = [(farthest[0], {3: 2}), (far[0], {2: 2}), (near[0], {1: 2})]
            self.assertEqual(surely(3), gathered(farthest[0], tells, mode))
            self.assertEqual(surely(2), gathered(far[0], tells, mode))
            self.assertEqual(surely(1), gathered(near[0], tells, mode))
            self.assertEqual(GATHERED, gathered((3, 0, 0, 0, 0, 0, 0), tells, mode))

    def test_the_even_handed_may_come_by_either_side(self):
        # From across, one comes to two in three moves, by whichever side.
        tells = [((2, 0, 0, 1, 0, 0), {3: 1}), ((2, 0, 1, 0, 0, 0), {2: 2}), ((2, 1, 0, 0, 0, 0), {1: 2})]
        for mode in range(3):
            self.assertEqual(surely(3), gathered((2, 0, 0, 1, 0, 0), tells, mode))

    def test_the_most_moves_and_not_the_fewest(self):
        # Both who are beside the two go to it: one by one that's two moves, at once it's one.
        tells = [((2, 1, 0, 0, 1), {1: 2}), ((3, 1, 0, 0, 0), {1: 2})]
        self.assertEqual(surely(2), gathered((2, 1, 0, 0, 1), tells, 0))
        self.assertEqual(surely(2), gathered((2, 1, 0, 0, 1), tells, 1))
        self.assertEqual(surely(1), gathered((2, 1, 0, 0, 1), tells, 2))

    def test_sure_is_of_all_choices(self):
        # Without a word for who is left over they gather by luck alone, if not all go at once.
        tells = [((2, 1, 0, 0, 1), {1: 2})]
        self.assertEqual(NEVER, gathered((2, 1, 0, 0, 1), tells, 0))
        self.assertEqual(NEVER, gathered((2, 1, 0, 0, 1), tells, 1))
        self.assertEqual(surely(1), gathered((2, 1, 0, 0, 1), tells, 2))

    def test_asking_changes_nothing(self):
        line = [*begun((0, 1, 2, 0)), ("tell", 1, 2)]
        once = ask(*line, "done", "sure", "longest", "rank", "ring")[-5:]
        twice = ask(*line, *["done", "sure", "longest", "rank", "ring"] * 2)[-10:]
        self.assertEqual(once * 2, twice)


if __name__ == "__main__":
    unittest.main()
