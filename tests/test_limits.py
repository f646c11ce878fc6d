"""Points 8 and 22 to 25: repeat counts, additional loads and dropped loads."""

import random
import unittest
from itertools import combinations

from tests import helper
from wornrigs.limits import largest_extra, repeat_count, repeat_subset, smallest_drop

RIG = helper.RIG
NESTED = (("a", 20, 3), (("b", 9, 1), ("c", 9, 1)))


def rig_with_unworn_strands(rng):
    """A random rig in which about every second strand has wear 0."""
    return helper.mapped(helper.random_rig(rng), lambda n, s, w: (n, s, rng.choice((0, w))))


def heaviest_possible(rig):
    """The heaviest load that the rig can lift at all."""
    return max(helper.heaviest(rig, subset, 0) for subset in helper.all_subsets(rig))


class RepeatTest(unittest.TestCase):
    def check(self, rig, load):
        """Compares both functions with two searches; returns the repeat count."""
        place = (rig, load)
        count, subset = repeat_count(rig, load), repeat_subset(rig, load)
        self.assertEqual(count, helper.lifted_repeatedly(rig, load), place)
        self.assertEqual(count, helper.largest_supported_count(rig, load), place)
        if count == 0:
            self.assertIsNone(subset, place)
        else:
            self.assertIn(subset, helper.all_subsets(rig), place)
            self.assertTrue(helper.supports_count(rig, subset, load, count), place)
        return count

    def test_examples(self):
        self.assertEqual(repeat_count(NESTED, 12), 5)
        self.assertEqual(repeat_subset(NESTED, 12), ("a", "b", "c"))

    def test_kinds(self):
        self.assertIs(type(repeat_count(NESTED, 12)), int)
        self.assertIs(type(repeat_count(NESTED, 600)), int)
        self.assertIs(type(repeat_subset(NESTED, 12)), tuple)

    def test_cannot_be_lifted(self):
        for rig, load in ((RIG, 11), (RIG, 600), (("a", 9, 0), 10), (("a", 9, 4), 10), (NESTED, 600)):
            self.assertEqual(repeat_count(rig, load), 0)
            self.assertIsNotNone(repeat_count(rig, load))
            self.assertIsNone(repeat_subset(rig, load))

    def test_no_limit(self):
        for load in range(1, 10):
            self.assertIsNone(repeat_count(RIG, load))
            self.assertEqual(repeat_subset(RIG, load), ("a",))
        self.assertEqual(repeat_count(RIG, 10), 1)
        self.assertEqual(repeat_subset(RIG, 10), ("a", "b"))
        self.assertIsNone(repeat_count(("a", 9, 0), 9))

    def test_one_strand(self):
        # The strand holds while its strength is at least the load.
        self.assertEqual([repeat_count(("a", 9, 2), load) for load in range(1, 11)], [5, 4, 4, 3, 3, 2, 2, 1, 1, 0])
        self.assertEqual(repeat_count(("a", 9, 20), 1), 1)
        self.assertEqual(repeat_count(("a", 99, 1), 1), 99)

    def test_shares_that_are_not_whole(self):
        rig = (("a", 5, 1), ("b", 5, 1), ("c", 5, 1))
        # A third of 13 is more than 4, a third of 12 is not.
        self.assertEqual((repeat_count(rig, 13), repeat_count(rig, 12)), (1, 2))

    def test_fewer_strands_last_longer(self):
        # The first lift of 10 needs both strands; a strand that is worn out leaves the rest to the other.
        rig = (("a", 12, 1), ("b", 6, 6))
        self.assertEqual(repeat_count(rig, 10), 3)
        self.assertEqual(repeat_subset(rig, 10), ("a",))

    def test_random(self):
        rng = random.Random(701)
        seen = {"no limit": 0, "none": 0, "one": 0, "more": 0, "not all": 0}
        for turn in range(1200):
            rig = helper.random_rig(rng) if turn % 2 else rig_with_unworn_strands(rng)
            top = heaviest_possible(rig)
            load = rng.choice((top - rng.randint(0, 3), rng.randint(1, 5), rng.randint(1, top + 1)))
            count = self.check(rig, max(1, load))
            seen["no limit" if count is None else "none" if count == 0 else "one" if count == 1 else "more"] += 1
            seen["not all"] += count != 0 and repeat_subset(rig, max(1, load)) != helper.names_of(rig)
        self.assertGreater(min(seen.values()), 40, seen)

    def test_largest_possible_load(self):
        rng = random.Random(702)
        for turn in range(150):
            rig = rig_with_unworn_strands(rng)
            top = heaviest_possible(rig)
            self.assertNotEqual(self.check(rig, top), 0)
            self.assertEqual(self.check(rig, top + 1), 0)

    def test_lifts_that_often_and_no_more(self):
        rng = random.Random(703)
        met = 0
        for turn in range(300):
            rig = helper.random_rig(rng)
            load = helper.random_load(rng, rig)
            count = repeat_count(rig, load)
            if count is None:
                self.assertEqual(helper.simulate(rig, (load,) * 150)[0], 150, (rig, load))
            else:
                met += 1
                self.assertEqual(helper.simulate(rig, (load,) * (count + 3))[0], count, (rig, load))
        self.assertGreater(met, 100)

    def test_all_loads(self):
        rng = random.Random(704)
        for turn in range(25):
            rig = rig_with_unworn_strands(rng)
            counts = [repeat_count(rig, load) for load in range(1, 601)]
            self.assertEqual(counts, helper.all_repeat_counts(rig), rig)

    def test_numbers_far_beyond_the_limits(self):
        huge = 10 ** 30
        self.assertEqual(repeat_count(("a", huge, 1), 1), huge)
        self.assertEqual(repeat_count((("a", huge, 1), ("b", huge, 3)), huge // 2), huge // 2 + 1)
        self.assertEqual(repeat_count(("a", 9, 1), huge), 0)


class LargestExtraTest(unittest.TestCase):
    def check(self, rig, loads):
        result, place = largest_extra(rig, loads), (rig, loads)
        if result is None:
            self.assertFalse(helper.some_order_succeeds(rig, loads + (1,)), place)
        else:
            self.assertIn(result, range(1, 601), place)
            self.assertTrue(helper.some_order_succeeds(rig, loads + (result,)), place)
            if result < 600:
                self.assertFalse(helper.some_order_succeeds(rig, loads + (result + 1,)), place)
        return result

    def test_example(self):
        self.assertEqual(largest_extra(RIG, (10,)), 9)

    def test_no_loads(self):
        self.assertEqual(largest_extra(RIG, ()), 10)
        self.assertEqual(largest_extra(("a", 7, 7), ()), 7)
        rng = random.Random(711)
        for turn in range(100):
            rig = helper.random_rig(rng)
            self.assertEqual(self.check(rig, ()), heaviest_possible(rig))

    def test_nothing_can_be_added(self):
        self.assertIsNone(largest_extra(RIG, (10, 10)))
        self.assertIsNone(largest_extra(("a", 7, 7), (7,)))
        self.assertIsNone(largest_extra(("a", 7, 7), (8,)))
        self.assertEqual(largest_extra(("a", 8, 7), (7,)), 1)
        self.assertEqual(largest_extra(("a", 8, 7), (1,)), 8)
        self.assertEqual(largest_extra(("a", 8, 7), (8,)), 1)

    def test_random(self):
        rng = random.Random(712)
        seen = {None: 0, "lighter": 0, "heavier": 0, "equal": 0}
        for turn in range(900):
            rig = helper.random_rig(rng)
            loads = helper.random_loads(rng, rig, 5)
            result = self.check(rig, loads)
            if result is None:
                seen[None] += 1
            elif loads:
                seen["lighter"] += result < loads[0]
                seen["heavier"] += result > loads[-1]
                seen["equal"] += result in loads
        self.assertGreater(min(seen.values()), 15, seen)

    def test_lopsided(self):
        rng = random.Random(713)
        for turn in range(200):
            rig, loads = helper.lopsided_case(rng)
            self.check(rig, loads)

    def test_at_most_600(self):
        # Six strands of 99 lift 594 together, so only stronger ones reach the limit.
        for strength, result in ((598, 598), (599, 599), (600, 600), (601, 600), (5000, 600), (10 ** 39, 600)):
            self.assertEqual(self.check(("a", strength, 0), ()), result)
            self.assertEqual(self.check(("a", strength + 9, 9), (1,)), min(600, result + 9))
            self.assertEqual(self.check((("a", strength, 0), ("b", 2 * strength, 5)), (strength,)), 600)
        six = tuple((letter, 99, 0) for letter in "abcdef")
        self.assertEqual(self.check(six, (594, 594)), 594)


class SmallestDropTest(unittest.TestCase):
    def check(self, rig, loads):
        """Compares with a search over all sets, from the smallest ones on and in ascending order."""
        feasible = helper.Feasibility(rig)
        places = range(len(loads))
        for dropped in [chosen for many in range(len(loads) + 1) for chosen in combinations(places, many)]:
            if feasible([load for at, load in enumerate(loads) if at not in dropped]):
                break
        result = smallest_drop(rig, loads)
        self.assertEqual(result, dropped, (rig, loads))
        self.assertEqual(result == (), feasible(loads), (rig, loads))
        return result

    def test_example(self):
        self.assertEqual(smallest_drop(RIG, (9, 10, 10)), (1,))

    def test_nothing_to_drop(self):
        self.assertEqual(smallest_drop(RIG, ()), ())
        self.assertEqual(smallest_drop(RIG, (9, 10)), ())
        self.assertIs(type(smallest_drop(RIG, (9, 10))), tuple)

    def test_all_to_drop(self):
        self.assertEqual(smallest_drop(RIG, (11, 12, 600)), (0, 1, 2))
        self.assertEqual(smallest_drop(("a", 1, 0), (600,) * 6), (0, 1, 2, 3, 4, 5))

    def test_first_of_several(self):
        self.assertEqual(smallest_drop(("a", 8, 8), (2, 5, 8)), (0, 1))
        self.assertEqual(smallest_drop(("a", 8, 8), (2, 8, 9)), (0, 2))
        self.assertEqual(smallest_drop(("a", 9, 8), (1, 9, 9, 9)), (1, 2))
        self.assertEqual(smallest_drop(RIG, (10, 10, 10)), (0, 1))

    def test_random(self):
        rng = random.Random(721)
        seen = {0: 0, 1: 0, 2: 0, 3: 0}
        for turn in range(400):
            rig = helper.random_rig(rng, 4)
            loads = list(helper.random_loads(rng, rig, 6))
            for at in range(len(loads)):
                if rng.random() < 0.3:
                    loads[at] = rng.choice((rng.choice(loads), loads[at] + rng.randint(0, 9)))
            result = self.check(rig, tuple(sorted(min(600, load) for load in loads)))
            seen[min(3, len(result))] += 1
        self.assertGreater(min(seen.values()), 20, seen)

    def test_lopsided(self):
        rng = random.Random(722)
        for turn in range(200):
            rig, loads = helper.lopsided_case(rng)
            self.check(rig, loads)


if __name__ == "__main__":
    unittest.main()
