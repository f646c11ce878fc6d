"""Points 26 to 28: the strength or wear that a strand needs, and reinforcement."""

import random
import unittest
from fractions import Fraction
from itertools import product

from tests import helper
from wornrigs.orders import is_feasible
from wornrigs.repairs import largest_wear, reinforcement, smallest_strength

RIG = helper.RIG


def with_strength(rig, name, strength):
    return helper.changed(rig, name, lambda n, s, w: (n, strength, w))


def with_wear(rig, name, wear):
    return helper.changed(rig, name, lambda n, s, w: (n, s, wear))


def random_cases(seed, many, most_strands=6, most_loads=4):
    """Random rigs with loads, some of which are far too heavy for the rig."""
    rng = random.Random(seed)
    for turn in range(many):
        if turn % 4 == 0:
            yield rng, *helper.lopsided_case(rng)
            continue
        rig = helper.random_rig(rng, most_strands)
        loads = list(helper.random_loads(rng, rig, most_loads))
        for at in range(len(loads)):
            if rng.random() < 0.15:
                loads[at] = rng.randint(1, 600)
            elif rng.random() < 0.3:
                loads[at] += rng.randint(1, 4)
        yield rng, rig, tuple(sorted(min(600, load) for load in loads))


class SmallestStrengthTest(unittest.TestCase):
    def check(self, rig, name, loads):
        result, place = smallest_strength(rig, name, loads), (rig, name, loads)
        self.assertIs(type(result), int)
        self.assertGreaterEqual(result, 1, place)
        for strength in (result, result + 1, result + 40, result + 5000):
            self.assertTrue(helper.some_order_succeeds(with_strength(rig, name, strength), loads), place)
        if result > 1:
            self.assertFalse(helper.some_order_succeeds(with_strength(rig, name, result - 1), loads), place)
        return result

    def test_example(self):
        self.assertEqual(smallest_strength((("a", 1, 0), ("b", 5, 5)), "a", (9, 10)), 9)

    def test_not_needed(self):
        self.assertEqual(smallest_strength(RIG, "a", ()), 1)
        self.assertEqual(smallest_strength(RIG, "b", (9, 9, 9)), 1)
        self.assertEqual(smallest_strength(("a", 50, 20), "a", ()), 1)

    def test_above_99(self):
        self.assertEqual(smallest_strength(("a", 1, 0), "a", (600,)), 600)
        self.assertEqual(smallest_strength(("a", 1, 20), "a", (600,) * 6), 700)
        self.assertEqual(smallest_strength(("a", 1, 20), "a", (1, 2, 300)), 300)
        self.assertEqual(smallest_strength((("a", 1, 20), ("b", 5, 5)), "b", (100, 100)), 105)
        self.assertEqual(smallest_strength((("a", 99, 0), ("b", 5, 5)), "b", (198, 198)), 104)

    def test_every_strand(self):
        seen = {"one": 0, "between": 0, "above 99": 0, "together": 0}
        for rng, rig, loads in random_cases(801, 250):
            for name in helper.names_of(rig):
                result = self.check(rig, name, loads)
                seen["one" if result == 1 else "between" if result <= 99 else "above 99"] += 1
                seen["together"] += bool(loads) and 1 < result < loads[-1]
        self.assertGreater(min(seen.values()), 50, seen)

    def test_strength_in_the_rig_has_no_effect(self):
        for rng, rig, loads in random_cases(802, 200):
            name = rng.choice(helper.names_of(rig))
            results = [smallest_strength(with_strength(rig, name, s), name, loads) for s in (1, 2, 50, 99)]
            self.assertEqual(results, [smallest_strength(rig, name, loads)] * 4, (rig, name, loads))


class LargestWearTest(unittest.TestCase):
    def check(self, rig, name, loads):
        result, place = largest_wear(rig, name, loads), (rig, name, loads)
        fine = [helper.some_order_succeeds(with_wear(rig, name, wear), loads) for wear in range(21)]
        self.assertEqual(result, None if True not in fine else max(wear for wear in range(21) if fine[wear]), place)
        if result is not None:
            self.assertTrue(all(fine[:result + 1]), place)
        return result

    def test_example(self):
        self.assertEqual(largest_wear((("a", 9, 20), ("b", 5, 5)), "a", (9, 10)), 0)

    def test_any_wear(self):
        self.assertEqual(largest_wear(RIG, "a", ()), 20)
        self.assertEqual(largest_wear(RIG, "a", (10,)), 20)
        self.assertEqual(largest_wear(("a", 41, 0), "a", (1, 1, 1)), 20)
        self.assertEqual(largest_wear(("a", 40, 0), "a", (1, 1, 1)), 19)

    def test_no_wear(self):
        self.assertIsNone(largest_wear(RIG, "a", (11,)))
        self.assertIsNone(largest_wear(RIG, "b", (10, 11)))
        self.assertEqual(largest_wear(RIG, "b", (10, 10)), 0)

    def test_every_strand(self):
        seen = {None: 0, 0: 0, 20: 0, "between": 0}
        for rng, rig, loads in random_cases(811, 350, 4):
            for name in helper.names_of(rig):
                result = self.check(rig, name, loads)
                seen[result if result in seen else "between"] += 1
        self.assertGreater(min(seen.values()), 15, seen)

    def test_wear_in_the_rig_has_no_effect(self):
        for rng, rig, loads in random_cases(812, 200):
            name = rng.choice(helper.names_of(rig))
            results = [largest_wear(with_wear(rig, name, wear), name, loads) for wear in (0, 1, 9, 20)]
            self.assertEqual(results, [largest_wear(rig, name, loads)] * 4, (rig, name, loads))


def distributions(total, many):
    """All tuples of so many numbers from 0 on that add up to the total."""
    if many == 1:
        yield (total,)
        return
    for first in range(total + 1):
        for rest in distributions(total - first, many - 1):
            yield (first,) + rest


def strengthened(rig, extras):
    """The rig with its strengths increased, in the order of its names."""
    more = dict(zip(helper.names_of(rig), extras))
    return helper.mapped(rig, lambda name, strength, wear: (name, strength + more[name], wear))


def least_by_distributions(rig, loads, most):
    """The smallest total of a distribution that makes the loads feasible, or None if it is above the limit."""
    for total in range(most + 1):
        for extras in distributions(total, len(helper.names_of(rig))):
            if helper.some_order_succeeds(strengthened(rig, extras), loads):
                return total
    return None


def least_by_lifetimes(rig, loads):
    """The best increases, out of all ways to choose for how many lifts of the descending order each strand holds."""
    names = helper.names_of(rig)
    strands = {strand[0]: strand for strand in helper.strands_of(rig)}
    falling = sorted(loads, reverse=True)
    best = None
    for lifetimes in product(range(len(loads) + 1), repeat=len(names)):
        if loads and max(lifetimes) < len(loads):
            continue
        extras = dict.fromkeys(names, 0)
        for lifts, load in enumerate(falling):
            subset = [name for name, lifetime in zip(names, lifetimes) if lifetime > lifts]
            for name, share in helper.loads_on(rig, Fraction(load), subset).items():
                missing = share + lifts * strands[name][2] - strands[name][1]
                extras[name] = max(extras[name], -(-missing.numerator // missing.denominator))
        if best is None or sum(extras.values()) < sum(best):
            best = tuple(extras[name] for name in names)
    return best


class ReinforcementTest(unittest.TestCase):
    def test_example(self):
        self.assertEqual(reinforcement(RIG, (10, 10)), 1)

    def test_nothing_needed(self):
        self.assertEqual(reinforcement(RIG, ()), 0)
        self.assertEqual(reinforcement(RIG, (9, 10)), 0)
        self.assertIs(type(reinforcement(RIG, (9, 10))), int)

    def test_one_strand(self):
        self.assertEqual(reinforcement(("a", 9, 0), (12,)), 3)
        self.assertEqual(reinforcement(("a", 9, 2), (9, 9, 9, 9)), 6)
        self.assertEqual(reinforcement(("a", 9, 2), (1, 9)), 0)
        self.assertEqual(reinforcement(("a", 99, 20), (600,) * 4), 561)

    def test_integer_steps(self):
        # A third of 13 is carried by a strength of 5 only.
        self.assertEqual(reinforcement((("a", 4, 0), ("b", 4, 0), ("c", 4, 0)), (13,)), 3)
        self.assertEqual(reinforcement((("a", 4, 0), ("b", 4, 0), ("c", 5, 0)), (13,)), 2)

    def test_weak_strands_are_given_up(self):
        self.assertEqual(reinforcement((("a", 50, 0), ("b", 1, 0)), (52,)), 2)
        self.assertEqual(reinforcement((("a", 50, 0), ("b", 1, 20)), (52, 52)), 2)
        self.assertEqual(reinforcement((("a", 50, 0), ("b", 26, 20)), (52, 52)), 2)
        self.assertEqual(reinforcement((("a", 50, 0), ("b", 26, 20)), (50, 52)), 0)

    def test_broken_strands_stay_broken(self):
        # Without help b breaks in the lift of 20, and a is worn out after it.
        self.assertEqual(reinforcement((("a", 20, 20), ("b", 9, 0)), (9,)), 0)
        self.assertEqual(reinforcement((("a", 20, 20), ("b", 9, 0)), (20,)), 0)
        self.assertEqual(reinforcement((("a", 20, 20), ("b", 9, 0)), (9, 20)), 1)
        self.assertEqual(reinforcement((("a", 20, 20), ("b", 10, 0)), (9, 20)), 0)

    def test_against_all_distributions(self):
        seen = {0: 0, "small": 0, "larger": 0}
        for rng, rig, loads in random_cases(821, 250, 4):
            most = (0, 60, 14, 6, 4)[len(helper.names_of(rig))]
            result, searched = reinforcement(rig, loads), least_by_distributions(rig, loads, most)
            if searched is None:
                self.assertGreater(result, most, (rig, loads))
                seen["larger"] += 1
            else:
                self.assertEqual(result, searched, (rig, loads))
                seen["small" if result else 0] += 1
            self.assertEqual(result == 0, is_feasible(rig, loads), (rig, loads))
        self.assertGreater(min(seen.values()), 40, seen)

    def test_against_all_lifetimes(self):
        seen = {"above 99": 0, "several strands": 0, "large": 0}
        for rng, rig, loads in random_cases(822, 150, 4):
            extras = least_by_lifetimes(rig, loads)
            self.assertEqual(reinforcement(rig, loads), sum(extras), (rig, loads))
            stronger = strengthened(rig, extras)
            self.assertTrue(helper.some_order_succeeds(stronger, loads), (rig, loads, extras))
            seen["above 99"] += any(strength > 99 for name, strength, wear in helper.strands_of(stronger))
            seen["several strands"] += sum(extra > 0 for extra in extras) > 1
            seen["large"] += sum(extras) > 20
        self.assertGreater(min(seen.values()), 10, seen)


if __name__ == "__main__":
    unittest.main()
