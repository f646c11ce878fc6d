"""Points 9 and 29 to 32: yards of rigs, and the best tree of given strands."""

import random
import unittest
from itertools import combinations

from tests import helper
from wornrigs.yards import assign_loads, best_tree, fewest_rigs, most_loads

RIG = helper.RIG
ROPE = ("c", 10, 10)


def random_cases(seed, many):
    """Random yards, each with loads."""
    rng = random.Random(seed)
    for turn in range(many):
        if turn % 4 == 0:
            cases = [helper.lopsided_case(rng) for at in range(rng.randint(1, 3))]
            loads = [load for rig, loads in cases for load in loads]
            yield rng, tuple(rig for rig, loads in cases), tuple(sorted(rng.sample(loads, min(6, len(loads)))))
            continue
        yard = helper.random_yard(rng)
        yield rng, yard, helper.random_yard_loads(rng, yard)


class AssignLoadsTest(unittest.TestCase):
    def test_example(self):
        self.assertEqual(assign_loads((RIG, ROPE), (9, 10, 10)), (0, 1, 0))

    def test_no_loads(self):
        self.assertEqual(assign_loads((RIG,), ()), ())
        self.assertEqual(assign_loads((RIG, ROPE, RIG), ()), ())

    def test_no_assignment(self):
        self.assertIsNone(assign_loads((RIG,), (11,)))
        self.assertIsNone(assign_loads((RIG, ROPE), (1, 600)))
        self.assertIsNone(assign_loads((RIG, ROPE), (10, 10, 10)))
        self.assertIsNone(assign_loads((ROPE, ROPE), (1, 1, 1)))

    def test_descending_loads(self):
        # The index of the rig for the heaviest load stands first.
        self.assertEqual(assign_loads((("a", 5, 0), ROPE), (5, 10)), (1, 0))
        self.assertEqual(assign_loads((("a", 5, 0), ROPE, ("b", 7, 7)), (5, 5, 6, 10)), (1, 2, 0, 0))

    def test_equal_rigs_and_names(self):
        rope = ("a", 5, 5)
        self.assertEqual(assign_loads((rope, rope, rope), (1, 2, 3)), (0, 1, 2))
        self.assertEqual(assign_loads((("a", 4, 4), ("a", 5, 5)), (4, 5)), (1, 0))

    def test_first_of_several(self):
        # The first rig could lift either load; the heavier one comes first in the assignment.
        self.assertEqual(assign_loads((("a", 9, 9), ("b", 9, 0)), (8, 9)), (0, 1))
        self.assertEqual(assign_loads((("a", 9, 0), ("b", 9, 9)), (8, 9)), (0, 0))

    def test_against_all_assignments(self):
        seen = {None: 0, "one rig": 0, "several": 0, "equal rigs": 0, "same names": 0, "six": 0}
        for rng, yard, loads in random_cases(901, 600):
            wanted = helper.first_assignment(yard, loads)
            self.assertEqual(assign_loads(yard, loads), wanted, (yard, loads))
            if wanted is None:
                seen[None] += 1
            elif wanted:
                seen["several" if len(set(wanted)) > 1 else "one rig"] += 1
                seen["six"] += len(loads) == 6
            seen["equal rigs"] += len(set(yard)) < len(yard)
            names = [set(helper.names_of(rig)) for rig in set(yard)]
            seen["same names"] += any(one & other for one, other in combinations(names, 2))
        self.assertGreater(min(seen.values()), 20, seen)


class MostLoadsTest(unittest.TestCase):
    def test_example(self):
        self.assertEqual(most_loads((RIG,), (9, 10, 10)), 2)

    def test_edges(self):
        self.assertEqual(most_loads((RIG,), ()), 0)
        self.assertEqual(most_loads((RIG, ROPE), (600,)), 0)
        self.assertEqual(most_loads((RIG, ROPE), (11, 12, 13, 600)), 0)
        self.assertEqual(most_loads((RIG, ROPE), (9, 10, 10)), 3)
        self.assertEqual(most_loads((ROPE,), (8, 9, 10)), 1)
        self.assertEqual(most_loads((ROPE, ROPE, ROPE), (8, 9, 10, 10, 11)), 3)

    def test_against_all_assignments(self):
        seen = {"some": 0, "all": 0}
        for rng, yard, loads in random_cases(911, 300):
            wanted = helper.most_assigned(yard, loads)
            self.assertEqual(most_loads(yard, loads), wanted, (yard, loads))
            seen["all" if wanted == len(loads) else "some"] += 1
            self.assertEqual(wanted == len(loads), assign_loads(yard, loads) is not None, (yard, loads))
        self.assertGreater(min(seen.values()), 40, seen)


class FewestRigsTest(unittest.TestCase):
    def wanted(self, yard, loads):
        """The first of the smallest sets of rigs, out of all of them."""
        for many in range(len(yard) + 1):
            for chosen in combinations(range(len(yard)), many):
                if helper.first_assignment([yard[at] for at in chosen], loads) is not None:
                    return chosen
        return None

    def test_example(self):
        self.assertEqual(fewest_rigs((ROPE, RIG), (9, 10)), (1,))

    def test_edges(self):
        self.assertEqual(fewest_rigs((ROPE, RIG), ()), ())
        self.assertEqual(fewest_rigs((ROPE,), ()), ())
        self.assertIsNone(fewest_rigs((ROPE, RIG, ROPE), (600,)))
        self.assertIsNone(fewest_rigs((ROPE,), (1, 1)))
        self.assertEqual(fewest_rigs((ROPE, RIG, ROPE), (10,)), (0,))
        self.assertEqual(fewest_rigs((ROPE, RIG, ROPE), (10, 10)), (0, 1))
        self.assertEqual(fewest_rigs((ROPE, ("a", 9, 9), ROPE), (10, 10)), (0, 2))
        self.assertEqual(fewest_rigs((ROPE, ROPE, ROPE), (1, 1, 1)), (0, 1, 2))

    def test_against_all_subsets(self):
        seen = {None: 0, 0: 0, 1: 0, 2: 0, 3: 0}
        for rng, yard, loads in random_cases(921, 600):
            wanted = self.wanted(yard, loads)
            self.assertEqual(fewest_rigs(yard, loads), wanted, (yard, loads))
            seen[None if wanted is None else len(wanted)] += 1
        self.assertGreater(min(seen.values()), 10, seen)


class BestTreeTest(unittest.TestCase):
    def check(self, strands, load):
        counts = [helper.lifted_repeatedly(tree, load) for tree in helper.all_trees(strands)]
        wanted = None if None in counts else max(counts)
        result = best_tree(strands, load)
        self.assertIs(type(result), tuple)
        count, tree = result
        self.assertEqual(count, wanted, (strands, load))
        self.assertTrue(helper.is_rig(tree), (strands, load, tree))
        self.assertEqual(tuple(sorted(helper.strands_of(tree))), strands)
        self.assertEqual(helper.lifted_repeatedly(tree, load), count, (strands, load, tree))
        return counts

    def random_strands(self, rng):
        return tuple(sorted(helper.strands_of(self.random_rig(rng))))

    def random_rig(self, rng):
        rig = helper.random_rig(rng, 4)
        return rig if len(helper.names_of(rig)) > 1 else self.random_rig(rng)

    def test_example(self):
        count, tree = best_tree((("a", 4, 1), ("b", 4, 1)), 4)
        self.assertEqual(count, 3)
        self.assertEqual(sorted(tree), [("a", 4, 1), ("b", 4, 1)])

    def test_trees_of_the_search(self):
        for many, trees in ((2, 1), (3, 4), (4, 26)):
            strands = tuple((letter, 9, 1) for letter in "abcd"[:many])
            self.assertEqual(len(set(helper.all_trees(strands))), trees)

    def test_no_limit(self):
        self.assertIsNone(best_tree((("a", 9, 0), ("b", 1, 20)), 9)[0])
        # Only the tree in which a carries half of the load keeps the other two whole.
        strands = (("a", 8, 0), ("b", 4, 0), ("c", 4, 0))
        counts = self.check(strands, 16)
        self.assertEqual(sorted(counts, key=str), [0, 0, 0, None])

    def test_no_tree_lifts_it(self):
        strands = (("a", 8, 0), ("b", 4, 0), ("c", 4, 0))
        self.assertEqual(best_tree(strands, 17)[0], 0)
        self.assertEqual(set(self.check(strands, 17)), {0})

    def test_nested_tree_is_best(self):
        strands = (("a", 16, 4), ("b", 8, 2), ("c", 4, 1), ("d", 4, 1))
        self.check(strands, 32)
        self.assertEqual(best_tree(strands, 32)[0], 1)
        self.assertEqual(best_tree(strands, 33)[0], 0)
        self.assertEqual(best_tree(strands, 8)[0], 4)

    def test_random(self):
        rng = random.Random(931)
        seen = {None: 0, 0: 0, "some": 0, "trees differ": 0}
        for turn in range(350):
            strands = self.random_strands(rng)
            total = sum(strength for name, strength, wear in strands)
            load = rng.choice((total, total + 1, rng.randint(max(1, total * 2 // 3), total), rng.randint(1, total)))
            counts = self.check(strands, load)
            best = best_tree(strands, load)[0]
            seen[best if best in seen else "some"] += 1
            seen["trees differ"] += len(set(counts)) > 1
        self.assertGreater(min(seen.values()), 20, seen)


if __name__ == "__main__":
    unittest.main()
