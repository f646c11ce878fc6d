"""Every allowed call answers soon, also the largest ones."""

import random
import time
import unittest

from tests import helper
from wornrigs.inference import first_difference, matching_orders
from wornrigs.limits import largest_extra, repeat_count, repeat_subset, smallest_drop
from wornrigs.orders import always_remaining, count_orders, first_order
from wornrigs.repairs import largest_wear, reinforcement, smallest_strength
from wornrigs.yards import assign_loads, best_tree, fewest_rigs, most_loads

# Each of these calls takes far less than a second; the rest is for slow machines.
MOST_SECONDS = 5


def chain(strands):
    """A tree that is as deep as possible."""
    tree = strands[0]
    for strand in strands[1:]:
        tree = (tree, strand)
    return tree


def large_rigs(many):
    """Rigs with the given number of strands, of all shapes."""
    rng = random.Random(1100 + many)
    letters = "abcdef"[:many]
    yield tuple((letter, 99, 0) for letter in letters)
    yield tuple((letter, 99, 1) for letter in letters)
    yield tuple((letter, 99 - 7 * at, at + 1) for at, letter in enumerate(letters))
    yield chain([(letter, 99 - 7 * at, at) for at, letter in enumerate(letters)])
    yield chain([(letter, 60 + 7 * at, 1 + at) for at, letter in enumerate(letters)])
    for turn in range(6):
        yield helper.random_tree(rng, [(letter, rng.randint(30, 99), rng.randint(0, 20)) for letter in letters])


def large_loads(many):
    """Ascending loads, light and heavy, equal and different ones."""
    for step, low in ((0, 1), (1, 1), (3, 20), (20, 40), (0, 90), (90, 100), (0, 594), (0, 600), (9, 540)):
        yield tuple(min(600, low + step * at) for at in range(many))


class SpeedTest(unittest.TestCase):
    def soon(self, function, *arguments):
        start = time.monotonic()
        result = function(*arguments)
        self.assertLess(time.monotonic() - start, MOST_SECONDS, (function.__name__, arguments))
        return result

    def test_six_strands_and_six_loads(self):
        for rig in large_rigs(6):
            for loads in large_loads(6):
                for function in (smallest_drop, always_remaining, count_orders, first_order):
                    self.soon(function, rig, loads)
                self.soon(largest_extra, rig, loads[:5])
                self.soon(matching_orders, rig, loads[:5], ("a", "c"))
                self.soon(matching_orders, rig, loads[:5], helper.names_of(rig))
                self.soon(smallest_strength, rig, "d", loads)
                self.soon(largest_wear, rig, "d", loads)
                for load in loads:
                    self.soon(repeat_count, rig, load)
                    self.soon(repeat_subset, rig, load)

    def test_three_rigs_and_six_loads(self):
        rigs = list(large_rigs(6))
        for at, rig in enumerate(rigs):
            for loads in large_loads(6):
                for yard in ((rig, rigs[at - 1], rigs[at - 2]), (rig, rig, rig)):
                    for function in (assign_loads, most_loads, fewest_rigs):
                        self.soon(function, yard, loads)

    def test_reinforcement_of_four_strands_for_four_loads(self):
        for rig in large_rigs(4):
            for loads in large_loads(4):
                self.soon(reinforcement, rig, loads)

    def test_trees_of_four_strands(self):
        for rig in large_rigs(4):
            for load in (1, 2, 50, 99, 200, 396, 600):
                self.soon(best_tree, tuple(sorted(helper.strands_of(rig))), load)

    def test_two_rigs_of_six_strands(self):
        for rig in large_rigs(6):
            self.assertIsNone(self.soon(first_difference, rig, helper.mirrored(rig)))
            self.soon(first_difference, rig, helper.changed(rig, "e", lambda n, s, w: (n, s - 1, w)))


if __name__ == "__main__":
    unittest.main()
