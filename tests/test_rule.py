"""tell and untell."""

import unittest

from lines import LARGEST, ask, begun, last
from refusals import Leaving
from rules import full_rule


class Tell(Leaving):
    def test_answers_what_was_told(self):
        found = ask(*begun((1, 1, 0)), ("tell", 0, 2), ("tell", 0, 1), ("tell", 0, 0), ("tell", 0, 2))
        self.assertEqual([[0], [2], [1], [0]], found[3:])

    def test_two_who_see_the_same_are_told_at_once(self):
        self.assertEqual([[0], [2]], ask(*begun((1, 1, 0, 0)), ("tell", 0, 2), ("tell", 1, 2))[-2:])

    def test_who_sees_otherwise_is_not_told(self):
        self.assertEqual([[0], [0]], ask(*begun((1, 2, 0, 0)), ("tell", 0, 2), ("tell", 1, 2))[-2:])

    def test_views_are_the_same_on_rings_that_are_turned_or_mirrored(self):
        line = begun((1, 2, 0, 1, 0, 0))
        line += [("tell", 0, 1), ("tell", 1, 2), ("put", 0, 0), ("put", 1, 0), ("put", 5, 1), ("put", 4, 2)]
        line += [("put", 3, 0), ("put", 2, 1)]
        self.assertEqual([[6, 0, 0, 1, 0, 2, 1], [1], [2], [0]],
                         ask(*line, "ring", ("tell", 5, 0), ("tell", 4, 0), ("tell", 2, 0))[-4:])

    def test_eyes_make_views(self):
        # Eyes 1 don't tell two from three, eyes 2 don't tell one from more.
        for eyes, was in [(0, 0), (1, 2), (2, 2)]:
            self.assertEqual([was], last(*begun((1, 2, 0, 0, 0), eyes), ("tell", 0, 2), ("put", 1, 3), ("tell", 0, 0)))
        for eyes, was in [(0, 0), (1, 0), (2, 2)]:
            self.assertEqual([was], last(*begun((1, 2, 0, 0, 0), eyes), ("tell", 0, 2), ("put", 1, 1), ("tell", 0, 0)))

    def test_refusals_change_nothing(self):
        self.assert_refused(-2, ("tell", 5, 1), ("tell", LARGEST, 0))
        self.assert_refused(-33, ("tell", 2, 1), ("tell", 4, 0))
        self.assert_refused(-22, ("tell", 0, 3), ("tell", 1, LARGEST))

    def test_the_refusal_named_first(self):
        self.assert_refused(-2, ("tell", 5, 3), ("tell", LARGEST, LARGEST))
        self.assert_refused(-33, ("tell", 3, 3), ("tell", 3, 2), ("tell", 4, LARGEST))

    def test_even_handed_have_no_other_side(self):
        for ring, place in [((2, 0, 0), 0), ((0, 0, 1, 0), 2), ((1, 0, 1, 0), 0), ((1, 0, 0, 1, 0, 0), 3),
                            ((1, 1, 1), 1), ((1, 1, 1, 0, 0), 1), ((2, 1, 0, 0, 0, 0, 1), 0)]:
            found = ask(*begun(ring), ("tell", place, 2), ("untell", place), ("tell", place, 1), ("tell", place, 2),
                        ("tell", place, 0))
            self.assertEqual([[-22], [-6], [0], [-22], [1]], found[-5:])

    def test_others_have_one(self):
        for ring, place in [((1, 1, 0), 0), ((1, 1, 1, 0, 0), 0), ((1, 0, 1, 0, 0), 2), ((2, 1, 0, 0, 1), 1)]:
            self.assertEqual([0], last(*begun(ring), ("tell", place, 2)))

    def test_even_handed_is_by_what_is_seen(self):
        # At place 0 there are two on one side and one on the other.
        for eyes, answer in [(0, 0), (1, 0), (2, -22)]:
            self.assertEqual([answer], last(*begun((1, 2, 0, 1), eyes), ("tell", 0, 2)))

    def test_24_views_and_no_more(self):
        line, place, (rank, known) = full_rule()
        found = ask(*line, ("tell", place, 1), ("tell", place, 0), ("untell", place))
        self.assertEqual([[-28], [-28], [-6]], found[-3:])

    def test_one_of_24_may_be_told_again(self):
        line, place, (rank, known) = full_rule()
        found = ask(*line, ("jump", rank), ("tell", known, 2), ("tell", known, 0), ("untell", known))
        self.assertEqual([[1], [2], [23]], found[-3:])

    def test_what_cannot_be_done_comes_ahead_of_too_many(self):
        line, place, known = full_rule()
        self.assertEqual([[-22], [-28]], ask(*line, ("tell", place, 3), ("tell", place, 1))[-2:])

    def test_no_robot_comes_ahead_of_too_many(self):
        line, place, known = full_rule()
        self.assertEqual([[-33], [-2]], ask(*line, ("put", place, 0), ("tell", place, 3), ("tell", 7, 3))[-2:])

    def test_even_handed_comes_ahead_of_too_many(self):
        line, place, known = full_rule()
        # All that is told is of four robots, so nothing is of two.
        found = ask(*line, ("jump", 0), ("put", 6, 2), ("tell", 6, 2), ("tell", 6, 1))
        self.assertEqual([[4], [-22], [-28]], found[-3:])

    def test_room_for_one_again_after_untell(self):
        line, place, (rank, known) = full_rule()
        # Four at one place are not among the 24.
        found = ask(*line, ("jump", rank), ("untell", known), ("jump", 0), ("tell", 6, 1), ("untell", 6))
        self.assertEqual([[23], [0], [23]], [found[-4], *found[-2:]])


class Untell(Leaving):
    def test_answers_how_many_are_told_yet(self):
        found = ask(*begun((1, 2, 1, 0, 0)), ("tell", 0, 1), ("tell", 1, 1), ("untell", 2), ("untell", 1))
        self.assertEqual([[0], [0], [1], [0]], found[-4:])

    def test_nothing_is_told_any_more(self):
        found = ask(*begun((1, 1, 0)), ("tell", 0, 2), "sure", ("untell", 1), "sure", ("untell", 0), ("tell", 0, 1))
        self.assertEqual([[0], [1], [0], [0], [-6], [0]], found[3:])

    def test_a_view_told_to_stay_is_told(self):
        self.assertEqual([[0], [0], [-6]], ask(*begun((1, 0, 0)), ("tell", 0, 0), ("untell", 0), ("untell", 0))[-3:])

    def test_refusals_change_nothing(self):
        self.assert_refused(-2, ("untell", 5), ("untell", LARGEST))
        self.assert_refused(-33, ("untell", 2), ("untell", 4))

    def test_nothing_told_changes_nothing(self):
        found = ask(*begun((1, 2, 0, 0)), ("tell", 1, 2), ("untell", 0), ("tell", 1, 2), ("untell", 1))
        self.assertEqual([[0], [-6], [2], [0]], found[-4:])

    def test_the_refusal_named_first(self):
        # Of an empty place nothing is told, too.
        self.assertEqual([[-2], [-33], [-6]], ask(*begun((1, 0, 0)), ("untell", 3), ("untell", 1), ("untell", 0))[-3:])


if __name__ == "__main__":
    unittest.main()
