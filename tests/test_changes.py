"""begin, put, eyes, at, jump, ring, rank."""

import unittest

import model
from lines import LARGEST, ask, begun, last
from refusals import BEFORE, PROBES, Leaving


class Probes(Leaving):
    def test_the_probes_see_what_is_there(self):
        self.assertEqual([[5, 1, 2, 0, 0, 0], [1], [0], [1], [1], [2, 0, 1], [5, 1, 2, 3, 0], [1], [2], [1]],
                         ask(*BEFORE, *PROBES)[-len(PROBES):])


class Begin(Leaving):
    def test_new_ring_is_empty_for_all_places(self):
        for places in range(3, 8):
            for eyes in range(3):
                found = ask(("begin", places, eyes), "ring", "rank", ("at", 0), ("eyes", 0))
                self.assertEqual([[0], [places] + [0] * places, [0], [0], [eyes]], found)

    def test_places_and_eyes_that_are_none(self):
        for places, eyes in [(0, 0), (1, 0), (2, 0), (8, 0), (LARGEST, 0), (3, 3), (7, 3), (5, LARGEST), (2, 3),
                             (LARGEST, LARGEST)]:
            self.assertEqual([[-22], [-11]], ask(("begin", places, eyes), "ring"))

    def test_refused_again_changes_nothing(self):
        self.assert_refused(-22, ("begin", 2, 0), ("begin", 8, 0), ("begin", 5, 3), ("begin", LARGEST, 1),
                            ("begin", 3, LARGEST))

    def test_begin_again_makes_all_new(self):
        found = ask(*BEFORE, ("begin", 4, 2), "ring", ("at", 0), ("put", 0, 1), ("untell", 0), ("eyes", 0))
        self.assertEqual([[0], [4, 0, 0, 0, 0], [0], [0], [-6], [2]], found[len(BEFORE):])

    def test_begin_again_forgets_the_rule_of_like_views(self):
        self.assertEqual([-6], last(*begun((1, 1, 0)), ("tell", 0, 1), *begun((1, 1, 0)), ("untell", 0)))

    def test_begin_may_be_refused_first(self):
        self.assertEqual([[-22], [-11], [0], [3, 0, 0, 0]],
                         ask(("begin", 9, 0), ("put", 0, 1), ("begin", 3, 0), "ring"))


class Put(Leaving):
    def test_answers_how_many_were_at_that_place(self):
        found = ask(("begin", 4, 0), ("put", 1, 3), ("put", 2, 1), ("put", 1, 2), ("put", 1, 0), "ring")
        self.assertEqual([[0], [0], [0], [3], [2], [4, 0, 0, 1, 0]], found)

    def test_last_place_and_the_one_beyond(self):
        for places in range(3, 8):
            found = ask(("begin", places, 0), ("put", places - 1, 1), ("put", places, 1), "ring")
            self.assertEqual([[0], [-2], [places] + [0] * (places - 1) + [1]], found[1:])

    def test_four_fit_and_five_do_not(self):
        self.assertEqual([[0], [-22], [4]], ask(("begin", 3, 0), ("put", 0, 4), ("put", 0, 5), ("put", 0, 4))[1:])

    def test_four_altogether_fit_and_five_do_not(self):
        found = ask(*begun((2, 1, 0)), ("put", 2, 2), ("put", 2, 1), ("put", 1, 2), ("put", 1, 1), "ring")
        self.assertEqual([[-28], [0], [-28], [1], [3, 2, 1, 1]], found[3:])

    def test_those_who_were_there_do_not_count(self):
        self.assertEqual([[3], [3, 4, 0, 0]], ask(*begun((3, 0, 0)), ("put", 0, 4), "ring")[2:])
        self.assertEqual([[4], [3, 1, 0, 0]], ask(*begun((4, 0, 0)), ("put", 0, 1), "ring")[2:])

    def test_refusals_change_nothing(self):
        self.assert_refused(-2, ("put", 5, 1), ("put", LARGEST, 0))
        self.assert_refused(-22, ("put", 0, 5), ("put", 3, LARGEST))
        self.assert_refused(-28, ("put", 3, 2), ("put", 0, 3), ("put", 2, 4))

    def test_the_refusal_named_first(self):
        self.assert_refused(-2, ("put", 5, 5), ("put", 5, 4), ("put", LARGEST, LARGEST))
        self.assert_refused(-22, ("put", 3, 5), ("put", 1, 7))

    def test_the_rule_stays(self):
        self.assertEqual([1], last(*begun((1, 1, 0)), ("tell", 0, 1), ("put", 2, 1), ("put", 2, 0), ("tell", 0, 0)))


class Eyes(Leaving):
    def test_answers_which_there_were(self):
        self.assertEqual([[1], [0], [2], [2]],
                         ask(("begin", 3, 1), ("eyes", 0), ("eyes", 2), ("eyes", 2), ("eyes", 1))[1:])

    def test_the_rule_tells_nothing_any_more(self):
        for eyes in range(3):
            found = ask(*begun((1, 1, 0), 1), ("tell", 0, 2), "sure", ("eyes", eyes), "sure", ("untell", 0), "ring")
            self.assertEqual([[0], [1], [1], [0], [-6], [3, 1, 1, 0]], found[3:])

    def test_moves_stay(self):
        self.assertEqual([2], last(("begin", 3, 0), ("at", 2), ("eyes", 1), ("at", 0)))

    def test_refusals_change_nothing(self):
        self.assert_refused(-22, ("eyes", 3), ("eyes", LARGEST))


class At(Leaving):
    def test_answers_what_it_was(self):
        self.assertEqual([[0], [1], [2], [0]], ask(("begin", 3, 0), ("at", 1), ("at", 2), ("at", 0), ("at", 0))[1:])

    def test_refusals_change_nothing(self):
        self.assert_refused(-22, ("at", 3), ("at", LARGEST))

    def test_rule_and_ring_stay(self):
        self.assertEqual([[3, 1, 1, 0], [2]],
                         ask(*begun((1, 1, 0)), ("tell", 0, 2), ("at", 1), "ring", ("tell", 0, 2))[-2:])


class Names(Leaving):
    def test_ring_tells_places_by_number(self):
        self.assertEqual([7, 0, 1, 0, 0, 2, 0, 1], last(*begun((0, 1, 0, 0, 2, 0, 1)), "ring"))

    def test_names_of_two_on_five(self):
        for ring, rank in [((0, 0, 2, 0, 0), 0), ((1, 0, 0, 0, 1), 1), ((0, 1, 1, 0, 0), 1), ((0, 1, 0, 1, 0), 2),
                           ((1, 0, 0, 1, 0), 2)]:
            self.assertEqual([rank], last(*begun(ring), "rank"))

    def test_names_of_three_on_three(self):
        for rank, ring in enumerate([(0, 0, 3), (0, 1, 2), (1, 1, 1)]):
            self.assertEqual([[rank], [3, *ring]], ask(*begun((3, 0, 0)), ("jump", rank), "rank", "ring")[-2:])

    def test_rank_is_by_robots_and_not_by_what_is_seen(self):
        for eyes in range(3):
            self.assertEqual([1], last(*begun((3, 1, 0, 0), eyes), "rank"))
            self.assertEqual([2], last(*begun((2, 2, 0, 0), eyes), "rank"))

    def test_mirrored_rings_have_one_name(self):
        self.assertEqual(last(*begun((1, 2, 0, 1, 0, 0)), "rank"), last(*begun((1, 0, 2, 1, 0, 0)), "rank"))
        self.assertNotEqual(last(*begun((1, 2, 0, 1, 0, 0)), "rank"), last(*begun((1, 2, 0, 0, 0, 1)), "rank"))

    def test_jump_answers_the_number_of_what_it_was(self):
        found = ask(*begun((0, 1, 0, 1, 0)), ("jump", 0), "ring", ("jump", 1), "ring", ("jump", 2), "ring")
        self.assertEqual([[2], [5, 0, 0, 0, 0, 2], [0], [5, 0, 0, 0, 1, 1], [1], [5, 0, 0, 1, 0, 1]], found[3:])

    def test_jump_to_its_own_name_turns_it(self):
        self.assertEqual([[1], [4, 0, 0, 1, 1]], ask(*begun((1, 1, 0, 0)), ("jump", 1), "ring")[-2:])

    def test_how_many_names_there_are(self):
        counts = {(3, 0): 1, (3, 1): 1, (3, 2): 2, (3, 3): 3, (3, 4): 4, (4, 2): 3, (5, 2): 3, (7, 0): 1, (7, 4): 20}
        for (places, robots), count in counts.items():
            with self.subTest(places=places, robots=robots):
                found = ask(("begin", places, 0), ("put", 0, robots), ("jump", count - 1), "rank", ("jump", count))
                self.assertEqual([[0], [count - 1], [-33]], found[2:])

    def test_every_name_of_every_ring(self):
        for places in range(3, 8):
            for robots in range(5):
                names = model.names(places, robots)
                start = [("begin", places, 0), ("put", 0, robots)]
                for rank, name in enumerate(names):
                    self.assertEqual([[0], [places, *name], [rank]],
                                     ask(*start, ("jump", rank), "ring", "rank")[-3:])
                self.assertEqual([-33], last(*start, ("jump", len(names))))

    def test_every_ring_has_the_rank_of_its_name(self):
        for places in (3, 4, 5, 6):
            for robots in range(1, 5):
                names = model.names(places, robots)
                for ring in model.rings(places, robots):
                    self.assertEqual([names.index(model.name(ring))], last(*begun(ring), "rank"))

    def test_jump_refusals_change_nothing(self):
        # The names of three on five places are 00003, 00012, 00102, 00111 and 01011.
        self.assert_refused(-33, ("jump", 5), ("jump", 6), ("jump", LARGEST))

    def test_jump_keeps_rule_eyes_and_moves(self):
        found = ask(*BEFORE, ("jump", 1), "ring", "sure", "longest", ("tell", 3, 2), ("at", 0), ("eyes", 0))
        self.assertEqual([[1], [5, 0, 0, 0, 1, 2], [1], [1], [2], [2], [1]], found[len(BEFORE):])


if __name__ == "__main__":
    unittest.main()
