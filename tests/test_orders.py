"""Points 7 and 16 to 21: orders of loads."""

import random
import unittest

from tests import helper
from wornrigs.orders import (
    always_remaining, best_remaining, count_orders, first_order, is_always_feasible, is_feasible,
)

RIG = helper.RIG


def wanted_results(rig, loads):
    """What points 16 to 21 ask for, from a simulation of all orders."""
    ends = helper.successful_orders(rig, loads)
    if not ends:
        return False, False, None, None, 0, None
    best = [names for names in ends.values() if all(names >= others for others in ends.values())]
    always = set.intersection(*ends.values())
    all_succeed = len(ends) == len(helper.all_orders(loads))
    return True, all_succeed, tuple(sorted(best[0])), tuple(sorted(always)), len(ends), min(ends)


def results(rig, loads):
    return (
        is_feasible(rig, loads), is_always_feasible(rig, loads), best_remaining(rig, loads),
        always_remaining(rig, loads), count_orders(rig, loads), first_order(rig, loads),
    )


class OrdersTest(unittest.TestCase):
    def check(self, rig, loads):
        wanted = wanted_results(rig, loads)
        self.assertEqual(results(rig, loads), wanted, (rig, loads))
        return wanted

    def test_examples(self):
        self.assertIs(is_feasible(RIG, (9, 10)), True)
        self.assertIs(is_always_feasible(RIG, (9, 10)), False)
        self.assertEqual(best_remaining(RIG, (9, 10)), ("a",))
        self.assertEqual(always_remaining(RIG, (10,)), ("a", "b"))
        self.assertEqual(count_orders(RIG, (9, 10)), 1)
        self.assertEqual(first_order(RIG, (9, 10)), (10, 9))

    def test_kinds(self):
        kinds = [type(result) for result in results(RIG, (9, 10))]
        self.assertEqual(kinds, [bool, bool, tuple, tuple, int, tuple])
        kinds = [type(result) for result in results(RIG, (10, 10))]
        self.assertEqual(kinds, [bool, bool, type(None), type(None), int, type(None)])

    def test_no_loads(self):
        self.assertEqual(results(RIG, ()), (True, True, ("a", "b"), ("a", "b"), 1, ()))
        self.assertEqual(results(("rope", 1, 20), ()), (True, True, ("rope",), ("rope",), 1, ()))

    def test_no_order_succeeds(self):
        nothing = (False, False, None, None, 0, None)
        self.assertEqual(results(RIG, (10, 10)), nothing)
        self.assertEqual(results(RIG, (600,)), nothing)
        self.assertEqual(results(("a", 3, 3), (1, 1)), nothing)
        self.assertEqual(results(RIG, (9, 10, 10)), nothing)

    def test_equal_loads(self):
        self.assertEqual(count_orders(RIG, (4, 4, 4, 4)), 1)
        self.assertEqual(count_orders(("a", 99, 0), (4, 4, 5)), 3)
        self.assertEqual(count_orders(("a", 99, 0), (4, 4, 5, 5, 6, 6)), 90)
        self.assertEqual(count_orders(("a", 99, 0), (1, 2, 3, 4, 5, 6)), 720)
        self.assertEqual(count_orders(("a", 99, 0), (7, 7, 7, 7, 7, 7)), 1)
        self.assertEqual(first_order(("a", 10, 1), (9, 9, 10)), None)
        self.assertEqual(first_order(("a", 10, 1), (8, 9, 9)), (9, 9, 8))

    def test_first_order_is_not_only_ascending_or_descending(self):
        self.assertEqual(first_order(("a", 10, 1), (1, 2, 8)), (1, 2, 8))
        self.assertEqual(first_order(("a", 10, 1), (1, 2, 9)), (1, 9, 2))
        self.assertEqual(first_order(("a", 10, 1), (1, 2, 10)), (10, 1, 2))

    def test_successful_orders_that_end_differently(self):
        rig = (("a", 20, 0), ("b", 6, 3))
        # Lifting 12 first needs b and keeps it, lifting it last breaks b.
        self.assertEqual(results(rig, (4, 12)), (True, True, ("a", "b"), ("a",), 2, (4, 12)))

    def test_strands_that_remain_without_each_other(self):
        rig = (("a", 42, 19), ("b", 12, 1))
        # After (10, 23, 1) only a remains, after (23, 1, 10) only b, and after (23, 10, 1) both.
        self.assertEqual(results(rig, (1, 10, 23)), (True, False, ("a", "b"), (), 3, (10, 23, 1)))
        rng = random.Random(403)
        for turn in range(300):
            shaken = tuple((name, strength + rng.randint(-1, 1), wear) for name, strength, wear in rig)
            self.check(shaken, (1, 10 + rng.randint(-1, 1), 23 + rng.randint(-1, 1)))

    def test_random(self):
        rng = random.Random(401)
        tally = {"infeasible": 0, "always": 0, "sometimes": 0, "differ": 0, "between": 0}
        for turn in range(2500):
            rig = helper.random_rig(rng)
            loads = helper.random_loads(rng, rig, 5 if turn % 10 else 6)
            feasible, always, best, kept, count, first = self.check(rig, loads)
            tally["infeasible"] += not feasible
            tally["always"] += always
            tally["sometimes"] += feasible and not always
            tally["differ"] += best != kept
            tally["between"] += feasible and list(loads) != list(first) != sorted(loads, reverse=True)
        self.assertGreater(min(tally.values()), 100, tally)

    def test_random_with_six_loads(self):
        rng = random.Random(402)
        for turn in range(25):
            rig = helper.random_rig(rng)
            loads = tuple(sorted(max(1, helper.random_load(rng, rig) // 3) for at in range(6)))
            self.check(rig, loads)


if __name__ == "__main__":
    unittest.main()
