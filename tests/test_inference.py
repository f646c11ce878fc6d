"""Points 33 and 34: orders that leave given strands, and the first load that tells two rigs apart."""

import random
import unittest

from tests import helper
from wornrigs.inference import first_difference, matching_orders
from wornrigs.limits import repeat_count

RIG = helper.RIG


class MatchingOrdersTest(unittest.TestCase):
    def check(self, rig, loads, names, ends):
        """Compares with the successful orders from the helper."""
        wanted = [order for order in sorted(ends) if ends[order] == set(names)]
        result = matching_orders(rig, loads, names)
        self.assertIs(type(result), list)
        self.assertEqual(result, wanted, (rig, loads, names))
        return len(wanted)

    def test_example(self):
        self.assertEqual(matching_orders(RIG, (9, 10), ("a",)), [(10, 9)])

    def test_no_loads(self):
        self.assertEqual(matching_orders(RIG, (), ("a", "b")), [()])
        self.assertEqual(matching_orders(RIG, (), ("a",)), [])
        self.assertEqual(matching_orders(RIG, (), ()), [])

    def test_no_names(self):
        # An order that destroys the rig does not succeed.
        self.assertEqual(matching_orders(RIG, (10, 10), ()), [])
        self.assertEqual(matching_orders(RIG, (600,), ()), [])
        self.assertEqual(matching_orders(RIG, (1, 2), ()), [])

    def test_not_exactly_these(self):
        self.assertEqual(matching_orders(RIG, (9, 10), ("a", "b")), [])
        self.assertEqual(matching_orders(RIG, (9, 10), ("b",)), [])
        self.assertEqual(matching_orders(RIG, (10,), ("a", "b")), [(10,)])
        self.assertEqual(matching_orders(RIG, (10,), ("a",)), [])

    def test_strands_that_remain_without_each_other(self):
        rig = (("a", 42, 19), ("b", 12, 1))
        self.assertEqual(matching_orders(rig, (1, 10, 23), ("a",)), [(10, 23, 1)])
        self.assertEqual(matching_orders(rig, (1, 10, 23), ("b",)), [(23, 1, 10)])
        self.assertEqual(matching_orders(rig, (1, 10, 23), ("a", "b")), [(23, 10, 1)])

    def test_equal_loads(self):
        self.assertEqual(matching_orders(("a", 9, 0), (4, 4, 4), ("a",)), [(4, 4, 4)])
        self.assertEqual(matching_orders(("a", 9, 0), (4, 4, 5), ("a",)), [(4, 4, 5), (4, 5, 4), (5, 4, 4)])

    def test_new_list_each_time(self):
        for loads, names in (((9, 10), ("a",)), ((9, 10), ("b",)), ((), ("a", "b")), ((9, 10), ())):
            first = matching_orders(RIG, loads, names)
            again = list(first)
            second = matching_orders(RIG, loads, names)
            self.assertIsNot(first, second)
            first.append("changed")
            self.assertEqual(second, again)
            self.assertEqual(matching_orders(RIG, loads, names), again)

    def test_random(self):
        rng = random.Random(1001)
        seen = {"none": 0, "one": 0, "several": 0, "not all": 0, "equal loads": 0}
        for turn in range(500):
            rig = helper.random_rig(rng)
            loads = helper.random_loads(rng, rig, 5)
            ends = helper.successful_orders(rig, loads)
            met = sorted({tuple(sorted(names)) for names in ends.values()})
            others = rng.sample(helper.all_subsets(rig), min(3, len(helper.all_subsets(rig))))
            total = 0
            for names in met + [()] + [names for names in others if names not in met]:
                many = self.check(rig, loads, names, ends)
                total += many
                seen["none" if many == 0 else "one" if many == 1 else "several"] += 1
            self.assertEqual(total, len(ends))
            seen["not all"] += len(met) > 1
            seen["equal loads"] += len(set(loads)) < len(loads) and len(ends) > 1
        self.assertGreater(min(seen.values()), 20, seen)

    def test_every_subset(self):
        rng = random.Random(1002)
        for turn in range(150):
            rig, loads = helper.lopsided_case(rng)
            if turn % 2:
                rig = helper.random_rig(rng, 4)
                loads = helper.random_loads(rng, rig, 4)
            ends = helper.successful_orders(rig, loads)
            for names in [()] + helper.all_subsets(rig):
                self.check(rig, loads, names, ends)


class FirstDifferenceTest(unittest.TestCase):
    def check(self, one, other):
        pairs = zip(helper.all_repeat_counts(one), helper.all_repeat_counts(other))
        wanted = next((load for load, (first, second) in enumerate(pairs, 1) if first != second), None)
        self.assertEqual(first_difference(one, other), wanted, (one, other))
        self.assertEqual(first_difference(other, one), wanted, (other, one))
        return wanted

    def test_example(self):
        self.assertEqual(first_difference(RIG, (("a", 8, 0), ("b", 5, 5))), 9)

    def test_edges(self):
        self.assertEqual(first_difference(("a", 9, 0), ("b", 9, 0)), None)
        self.assertEqual(first_difference(("a", 9, 0), ("a", 9, 1)), 1)
        self.assertEqual(first_difference(("a", 9, 1), ("a", 10, 1)), 1)
        self.assertEqual(first_difference(("a", 9, 20), ("a", 10, 20)), 10)
        # No limit is not the same as not at all.
        self.assertEqual(first_difference(("a", 5, 0), ("a", 4, 0)), 5)
        self.assertEqual(first_difference((("a", 99, 0), ("b", 99, 0)), ("a", 99, 0)), 100)

    def test_at_most_600(self):
        # Six strands of 99 lift 594 together, so only stronger ones reach the limit.
        self.assertEqual(first_difference(("a", 598, 0), ("a", 700, 0)), 599)
        self.assertEqual(first_difference(("a", 599, 0), ("a", 700, 0)), 600)
        self.assertIsNone(first_difference(("a", 600, 0), ("a", 700, 0)))
        six = tuple((letter, 99, 0) for letter in "abcdef")
        self.assertEqual(self.check(six, six[:5] + (("f", 98, 0),)), 1 + 6 * 98)

    def test_rig_and_itself(self):
        rng = random.Random(1011)
        for turn in range(60):
            rig = helper.random_rig(rng)
            self.assertIsNone(first_difference(rig, rig), rig)
            self.assertIsNone(first_difference(rig, helper.mirrored(rig)), rig)
            self.assertIsNone(first_difference(helper.shuffled(rng, rig), helper.renamed(rng, rig, helper.NAMES)), rig)

    def test_one_changed_strand(self):
        rng = random.Random(1012)
        seen = {None: 0, "first": 0, "later": 0}
        for turn in range(60):
            rig = helper.random_rig(rng, 4)
            name = rng.choice(helper.names_of(rig))
            less, more = rng.choice(((1, 0), (0, 1), (-1, 0), (9, 9)))
            other = helper.changed(rig, name, lambda n, s, w: (n, max(1, s - less), min(20, w + more)))
            result = self.check(rig, other)
            seen[None if result is None else "first" if result == 1 else "later"] += 1
        self.assertGreater(min(seen.values()), 5, seen)

    def test_another_rig(self):
        rng = random.Random(1013)
        for turn in range(40):
            self.check(helper.random_rig(rng, 4), helper.random_rig(rng, 5))

    def test_same_counts_below_the_result(self):
        rng = random.Random(1014)
        met = 0
        for turn in range(200):
            rig = helper.random_rig(rng)
            other = helper.changed(rig, rng.choice(helper.names_of(rig)), lambda n, s, w: (n, max(1, s - 1), w))
            result = first_difference(rig, other)
            met += result is not None
            if result is not None:
                self.assertNotEqual(repeat_count(rig, result), repeat_count(other, result), (rig, other))
            for load in range(1, 601 if result is None else result):
                self.assertEqual(repeat_count(rig, load), repeat_count(other, load), (rig, other, load))
        self.assertGreater(met, 40)


if __name__ == "__main__":
    unittest.main()
