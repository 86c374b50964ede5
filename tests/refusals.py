"""How the tests see that a refused call changes nothing, nor one that only asks."""

import unittest

from lines import ask

# What a refused call, and one that only asks, must leave as it was: the ring, the rule, how moves are, and last the
# eyes, whose asking makes the rule tell nothing any more.
PROBES = ["ring", "rank", "done", "sure", "longest", "sures", "told", ("untell", 0), ("at", 1), ("eyes", 0)]

# A ring where all that PROBES ask is other than on a new ring.
BEFORE = [("begin", 5, 1), ("put", 0, 1), ("put", 1, 2), ("tell", 0, 2), ("tell", 1, 0), ("at", 2)]


class Leaving(unittest.TestCase):
    def assert_answered(self, answer, *calls):
        """Each of the calls, on a ring of 5 with three robots, is answered so and changes nothing."""
        untouched = ask(*BEFORE, *PROBES)[-len(PROBES):]
        for call in calls:
            with self.subTest(call=call):
                found = ask(*BEFORE, call, *PROBES)
                self.assertEqual(answer, found[len(BEFORE)])
                self.assertEqual(untouched, found[len(BEFORE) + 1:])

    def assert_refused(self, refusal, *calls):
        self.assert_answered([refusal], *calls)
