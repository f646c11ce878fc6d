"""Point 3: the guarantees, over the whole program."""

import random
import unittest

from tests import helper
from tests.helper import changed
from wornrigs.inference import first_difference, matching_orders
from wornrigs.lifting import lift_count, remaining
from wornrigs.limits import largest_extra, repeat_count, repeat_subset, smallest_drop
from wornrigs.orders import always_remaining, best_remaining, count_orders, is_always_feasible, is_feasible
from wornrigs.repairs import largest_wear, reinforcement, smallest_strength
from wornrigs.witnesses import find_witness, is_witness
from wornrigs.yards import assign_loads, best_tree, fewest_rigs, most_loads


def cases(seed, many, most):
    """Random rigs, each with loads."""
    rng = random.Random(seed)
    for turn in range(many):
        rig = helper.random_rig(rng)
        yield rng, rig, helper.random_loads(rng, rig, most)


def succeeds(rig, sequence):
    return lift_count(rig, sequence) == len(sequence)


def names_after(rig, sequence):
    return {name for name, strength in remaining(rig, sequence)}


def endless(count):
    """The repeat count as a number that can be compared."""
    return float("inf") if count is None else count


def better_rigs(rng, rig):
    """Rigs with one strand stronger or with less wear than in the given one."""
    for name in helper.names_of(rig):
        yield changed(rig, name, lambda n, s, w: (n, min(99, s + rng.choice((1, 7))), w))
        yield changed(rig, name, lambda n, s, w: (n, s, max(0, w - rng.choice((1, 7)))))


def easier_loads(rng, loads):
    """Loads of which one is lighter or left out."""
    for at, load in enumerate(loads):
        fewer = loads[:at] + loads[at + 1:]
        yield fewer
        yield tuple(sorted(fewer + (rng.randint(1, load),)))


class GuaranteesTest(unittest.TestCase):
    def test_descending_order_is_best(self):
        for rng, rig, loads in cases(501, 400, 5):
            best = tuple(sorted(loads, reverse=True))
            successful = [order for order in helper.all_orders(loads) if succeeds(rig, order)]
            self.assertEqual(is_feasible(rig, loads), bool(successful), (rig, loads))
            for order in successful:
                self.assertTrue(succeeds(rig, best), (rig, order))
                self.assertLessEqual(names_after(rig, order), names_after(rig, best), (rig, order))
            if successful:
                self.assertEqual(set(best_remaining(rig, loads)), names_after(rig, best))

    def test_ascending_order_is_worst(self):
        met = 0
        for rng, rig, loads in cases(502, 400, 5):
            self.assertEqual(is_always_feasible(rig, loads), succeeds(rig, loads), (rig, loads))
            if not succeeds(rig, loads):
                continue
            met += 1
            orders = helper.all_orders(loads)
            self.assertEqual(count_orders(rig, loads), len(orders), (rig, loads))
            self.assertEqual(set(always_remaining(rig, loads)), names_after(rig, loads), (rig, loads))
            for order in orders:
                self.assertTrue(succeeds(rig, order), (rig, order))
                self.assertLessEqual(names_after(rig, loads), names_after(rig, order), (rig, order))
        self.assertGreater(met, 100)

    def test_swapped_neighbours(self):
        met = 0
        for rng, rig, loads in cases(503, 2500, 6):
            before = tuple(rng.sample(loads, len(loads)))
            if not succeeds(rig, before):
                continue
            for at in range(len(before) - 1):
                if before[at] < before[at + 1]:
                    met += 1
                    after = before[:at] + (before[at + 1], before[at]) + before[at + 2:]
                    self.assertTrue(succeeds(rig, after), (rig, before, after))
                    self.assertLessEqual(set(remaining(rig, before)), set(remaining(rig, after)), (rig, before, after))
        self.assertGreater(met, 500)

    def test_witness_if_and_only_if_it_succeeds(self):
        for rng, rig, loads in cases(504, 600, 5):
            sequence = tuple(rng.sample(loads, len(loads)))
            witness = find_witness(rig, sequence)
            self.assertEqual(succeeds(rig, sequence), witness is not None, (rig, sequence))
            self.assertEqual(succeeds(rig, sequence), helper.has_witness(rig, sequence), (rig, sequence))
            self.assertEqual(is_witness(rig, sequence, witness), witness is not None, (rig, sequence))

    def test_less_to_bear_keeps_loads_feasible(self):
        met = met_always = 0
        for rng, rig, loads in cases(505, 1500, 6):
            if not is_feasible(rig, loads):
                continue
            always = is_always_feasible(rig, loads)
            met += not always
            met_always += always
            easier = [(better, loads) for better in better_rigs(rng, rig)]
            easier.extend((rig, fewer) for fewer in easier_loads(rng, loads))
            for better, fewer in easier:
                self.assertTrue(is_feasible(better, fewer), (rig, loads, better, fewer))
                if always:
                    self.assertTrue(is_always_feasible(better, fewer), (rig, loads, better, fewer))
        self.assertGreater(min(met, met_always), 100)

    def test_repeat_count_does_not_decrease(self):
        rng = random.Random(506)
        grown = 0
        for turn in range(500):
            rig = helper.random_rig(rng)
            load = helper.random_load(rng, rig)
            before = endless(repeat_count(rig, load))
            for better in better_rigs(rng, rig):
                self.assertGreaterEqual(endless(repeat_count(better, load)), before, (rig, better, load))
                grown += endless(repeat_count(better, load)) > before
            lighter = rng.randint(1, load)
            self.assertGreaterEqual(endless(repeat_count(rig, lighter)), before, (rig, load, lighter))
        self.assertGreater(grown, 100)

    def test_largest_extra_does_not_decrease(self):
        grown = 0
        for rng, rig, loads in cases(507, 300, 5):
            before = largest_extra(rig, loads) or 0
            for better in better_rigs(rng, rig):
                self.assertGreaterEqual(largest_extra(better, loads) or 0, before, (rig, better, loads))
                grown += (largest_extra(better, loads) or 0) > before
            for fewer in easier_loads(rng, loads):
                self.assertGreaterEqual(largest_extra(rig, fewer) or 0, before, (rig, loads, fewer))
        self.assertGreater(grown, 100)

    def test_repeat_count_is_the_largest_that_a_subset_supports(self):
        rng = random.Random(508)
        for turn in range(300):
            rig = helper.random_rig(rng)
            load = helper.random_load(rng, rig)
            count = repeat_count(rig, load)
            self.assertEqual(count, helper.largest_supported_count(rig, load), (rig, load))
            if count != 0:
                self.assertTrue(helper.supports_count(rig, repeat_subset(rig, load), load, count), (rig, load))

    def test_nothing_smaller_is_sufficient(self):
        met = 0
        for rng, rig, loads in cases(509, 300, 4):
            dropped = smallest_drop(rig, loads)
            # Dropping one load less than the result, whichever it is, leaves infeasible loads.
            for kept in dropped:
                met += 1
                others = tuple(load for at, load in enumerate(loads) if at not in dropped or at == kept)
                self.assertFalse(is_feasible(rig, others), (rig, loads, kept))
            yard = (rig, helper.random_rig(rng), helper.random_rig(rng))
            chosen = fewest_rigs(yard, loads)
            for spared in chosen or ():
                fewer = tuple(yard[at] for at in chosen if at != spared)
                self.assertIsNone(assign_loads(fewer, loads), (yard, loads))
            for better in better_rigs(rng, rig):
                # One strand that is stronger by s saves at most s.
                saved = sum(s for n, s, w in helper.strands_of(better)) - sum(s for n, s, w in helper.strands_of(rig))
                if len(helper.names_of(rig)) <= 4 and saved:
                    low, high = reinforcement(better, loads), reinforcement(rig, loads)
                    self.assertTrue(high - saved <= low <= high, (rig, better, loads))
        self.assertGreater(met, 100)


def all_counts(rig, sequence, loads):
    """Numbers and truths that neither names nor the order of children nor a common factor changes."""
    return (
        lift_count(rig, sequence), is_feasible(rig, loads), is_always_feasible(rig, loads), count_orders(rig, loads),
        smallest_drop(rig, loads), most_loads((rig, rig), loads), assign_loads((rig, rig), loads),
        fewest_rigs((rig, rig), loads), [repeat_count(rig, load) for load in loads + sequence],
    )


class SameRigTest(unittest.TestCase):
    def test_common_factor(self):
        for rng, rig, loads in cases(511, 250, 5):
            factor = rng.choice((2, 3, 7, 10 ** 20))
            sequence = helper.random_sequence(rng, rig, 6)
            larger = helper.mapped(rig, lambda n, s, w: (n, s * factor, w * factor))
            more, heavier = ([load * factor for load in row] for row in (sequence, loads))
            self.assertEqual(
                all_counts(larger, tuple(more), tuple(heavier)), all_counts(rig, sequence, loads), (rig, loads)
            )
            self.assertEqual(best_remaining(larger, tuple(heavier)), best_remaining(rig, loads))
            strands = tuple(sorted(helper.strands_of(rig)))[:3]
            scaled = tuple((n, s * factor, w * factor) for n, s, w in strands)
            for load in loads[-1:]:
                self.assertEqual(best_tree(scaled, load * factor)[0], best_tree(strands, load)[0], (strands, load))

    def test_names_and_order_of_children(self):
        for rng, rig, loads in cases(512, 250, 5):
            sequence = helper.random_sequence(rng, rig, 6)
            fresh = dict(zip(helper.names_of(rig), rng.sample(helper.NAMES, len(helper.names_of(rig)))))
            other = helper.shuffled(rng, helper.mapped(rig, lambda n, s, w: (fresh[n], s, w)))
            place = (rig, other, loads)
            self.assertEqual(all_counts(other, sequence, loads), all_counts(rig, sequence, loads), place)
            self.assertEqual(largest_extra(other, loads[:5]), largest_extra(rig, loads[:5]), place)
            self.assertIsNone(first_difference(rig, other), place)
            for name in fresh:
                wanted = smallest_strength(rig, name, loads), largest_wear(rig, name, loads)
                self.assertEqual((smallest_strength(other, fresh[name], loads),
                                  largest_wear(other, fresh[name], loads)), wanted, place)
            if len(fresh) <= 4:
                self.assertEqual(reinforcement(other, loads[:4]), reinforcement(rig, loads[:4]), place)
            best = best_remaining(rig, loads)
            if best is not None:
                named = tuple(sorted(fresh[name] for name in best))
                self.assertEqual(matching_orders(other, loads, named), matching_orders(rig, loads, best), place)

    def test_functions_agree(self):
        for rng, rig, loads in cases(513, 400, 5):
            feasible = is_feasible(rig, loads)
            self.assertEqual(smallest_drop(rig, loads) == (), feasible, (rig, loads))
            self.assertEqual(assign_loads((rig,), loads), (0,) * len(loads) if feasible else None, (rig, loads))
            self.assertEqual(most_loads((rig,), loads), len(loads) - len(smallest_drop(rig, loads)), (rig, loads))
            for name, strength, wear in helper.strands_of(rig):
                self.assertEqual(smallest_strength(rig, name, loads) <= strength, feasible, (rig, loads))
                worn = largest_wear(rig, name, loads)
                self.assertEqual(worn is not None and worn >= wear, feasible, (rig, loads))
            if len(helper.names_of(rig)) <= 4:
                self.assertEqual(reinforcement(rig, loads[:4]) == 0, is_feasible(rig, loads[:4]), (rig, loads))
            ends = [matching_orders(rig, loads, subset) for subset in helper.all_subsets(rig)]
            self.assertEqual(sum(len(orders) for orders in ends), count_orders(rig, loads), (rig, loads))
            if loads:
                repeated = repeat_count(rig, loads[0])
                self.assertEqual(repeated is None or repeated >= 4, is_feasible(rig, loads[:1] * 4), (rig, loads))


if __name__ == "__main__":
    unittest.main()
