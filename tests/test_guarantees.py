"""Point 3: the guarantees, as far as they speak of lifting, witnesses and orders."""

import random
import unittest

from tests import helper
from wornrigs.lifting import lift_count, remaining
from wornrigs.orders import always_remaining, best_remaining, count_orders, is_always_feasible, is_feasible
from wornrigs.witnesses import find_witness, is_witness


def cases(seed, many, most):
    """Random rigs, each with loads."""
    rng = random.Random(seed)
    for turn in range(many):
        rig = helper.random_rig(rng)
        yield rng, rig, helper.random_loads(rng, rig, most)


def succeeds(rig, sequence):
    return lift_count(rig, sequence) == len(sequence)


def names_after(rig, sequence):
    return {name for name, strength in remaining(rig, sequence)}


def changed(tree, name, change):
    """The tree with one strand replaced by what the function makes of it."""
    if isinstance(tree[0], str):
        return change(*tree) if tree[0] == name else tree
    return tuple(changed(child, name, change) for child in tree)


class GuaranteesTest(unittest.TestCase):
    def test_descending_order_is_best(self):
        for rng, rig, loads in cases(501, 400, 5):
            best = tuple(sorted(loads, reverse=True))
            successful = [order for order in helper.all_orders(loads) if succeeds(rig, order)]
            self.assertEqual(is_feasible(rig, loads), bool(successful), (rig, loads))
            for order in successful:
                self.assertTrue(succeeds(rig, best), (rig, order))
                self.assertLessEqual(names_after(rig, order), names_after(rig, best), (rig, order))
            if successful:
                self.assertEqual(set(best_remaining(rig, loads)), names_after(rig, best))

    def test_ascending_order_is_worst(self):
        met = 0
        for rng, rig, loads in cases(502, 400, 5):
            self.assertEqual(is_always_feasible(rig, loads), succeeds(rig, loads), (rig, loads))
            if not succeeds(rig, loads):
                continue
            met += 1
            orders = helper.all_orders(loads)
            self.assertEqual(count_orders(rig, loads), len(orders), (rig, loads))
            self.assertEqual(set(always_remaining(rig, loads)), names_after(rig, loads), (rig, loads))
            for order in orders:
                self.assertTrue(succeeds(rig, order), (rig, order))
                self.assertLessEqual(names_after(rig, loads), names_after(rig, order), (rig, order))
        self.assertGreater(met, 100)

    def test_swapped_neighbours(self):
        met = 0
        for rng, rig, loads in cases(503, 2500, 6):
            before = tuple(rng.sample(loads, len(loads)))
            if not succeeds(rig, before):
                continue
            for at in range(len(before) - 1):
                if before[at] < before[at + 1]:
                    met += 1
                    after = before[:at] + (before[at + 1], before[at]) + before[at + 2:]
                    self.assertTrue(succeeds(rig, after), (rig, before, after))
                    self.assertLessEqual(set(remaining(rig, before)), set(remaining(rig, after)), (rig, before, after))
        self.assertGreater(met, 500)

    def test_witness_if_and_only_if_it_succeeds(self):
        for rng, rig, loads in cases(504, 600, 5):
            sequence = tuple(rng.sample(loads, len(loads)))
            witness = find_witness(rig, sequence)
            self.assertEqual(succeeds(rig, sequence), witness is not None, (rig, sequence))
            self.assertEqual(succeeds(rig, sequence), helper.has_witness(rig, sequence), (rig, sequence))
            self.assertEqual(is_witness(rig, sequence, witness), witness is not None, (rig, sequence))

    def test_less_to_bear_keeps_loads_feasible(self):
        met = 0
        for rng, rig, loads in cases(505, 1500, 6):
            if not is_feasible(rig, loads):
                continue
            met += 1
            for name in helper.names_of(rig):
                stronger = changed(rig, name, lambda n, s, w: (n, min(99, s + rng.choice((1, 7))), w))
                self.assertTrue(is_feasible(stronger, loads), (rig, stronger, loads))
                fresher = changed(rig, name, lambda n, s, w: (n, s, max(0, w - rng.choice((1, 7)))))
                self.assertTrue(is_feasible(fresher, loads), (rig, fresher, loads))
            for at, load in enumerate(loads):
                fewer = loads[:at] + loads[at + 1:]
                self.assertTrue(is_feasible(rig, fewer), (rig, fewer))
                lighter = tuple(sorted(fewer + (rng.randint(1, load),)))
                self.assertTrue(is_feasible(rig, lighter), (rig, lighter))
        self.assertGreater(met, 300)


if __name__ == "__main__":
    unittest.main()
