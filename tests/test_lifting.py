"""Points 5 and 11 to 13: lifting a sequence."""

import random
import unittest
from math import gcd

from tests import helper
from wornrigs.lifting import lift_count, lift_log, remaining

RIG = helper.RIG


class LiftingTest(unittest.TestCase):
    def check(self, rig, sequence, seed=0):
        count, left, log = helper.simulate(rig, sequence, seed)
        place = (rig, sequence)
        self.assertEqual(lift_count(rig, sequence), count, place)
        self.assertEqual(remaining(rig, sequence), left, place)
        self.assertEqual(lift_log(rig, sequence), log, place)
        return count, left, log

    def test_examples(self):
        self.assertEqual(lift_count(RIG, (10, 10)), 1)
        self.assertEqual(remaining(RIG, (10,)), (("a", 9), ("b", 0)))
        self.assertEqual(
            lift_log(RIG, (10, 9)),
            [((), (("a", (5, 1)), ("b", (5, 1)))), (("b",), (("a", (9, 1)),))],
        )
        self.assertEqual(lift_log(RIG, (10, 10, 1)), [((), (("a", (5, 1)), ("b", (5, 1)))), ("a", "b")])

    def test_kinds(self):
        self.assertIs(type(lift_count(RIG, (10,))), int)
        left = remaining(RIG, (10,))
        self.assertIs(type(left), tuple)
        self.assertTrue(all(type(pair) is tuple for pair in left))
        log = lift_log(RIG, (9, 10, 10))
        self.assertIs(type(log), list)
        for broken, carried in log[:-1]:
            self.assertIs(type(broken), tuple)
            self.assertIs(type(carried), tuple)
            self.assertTrue(all(type(pair) is tuple and type(pair[1]) is tuple for pair in carried))
        self.assertIs(type(log[-1]), tuple)

    def test_no_lifts(self):
        self.assertEqual(lift_count(RIG, ()), 0)
        self.assertEqual(remaining(RIG, ()), (("a", 9), ("b", 5)))
        self.assertEqual(lift_log(RIG, ()), [])
        self.assertEqual(remaining((("b", 9, 0), (("c", 1, 1), ("a", 4, 4))), ()), (("a", 4), ("b", 9), ("c", 1)))

    def test_random(self):
        rng = random.Random(201)
        counts = {"all": 0, "none": 0, "some": 0, "broken": 0, "not positive": 0, "not whole": 0}
        for turn in range(2500):
            rig = helper.random_rig(rng)
            sequence = helper.random_sequence(rng, rig) if turn % 3 else helper.random_loads(rng, rig)[::-1]
            count, left, log = self.check(rig, sequence, turn)
            counts["all" if count == len(sequence) else "some" if count else "none"] += 1
            counts["broken"] += any(broken for broken, carried in log[:count])
            counts["not positive"] += any(strength <= 0 for name, strength in left)
            counts["not whole"] += any(share[1] > 1 for broken, carried in log[:count] for name, share in carried)
        self.assertGreater(min(counts.values()), 100, counts)

    def test_random_in_three_orders(self):
        rng = random.Random(202)
        for turn in range(300):
            rig = helper.random_rig(rng)
            sequence = tuple(random_light_load(rng, rig) for at in range(rng.randint(0, 12)))
            for order in (sequence, tuple(sorted(sequence)), tuple(sorted(sequence, reverse=True))):
                self.check(rig, order, turn)

    def test_exact_load(self):
        self.assertEqual(lift_count(("a", 9, 0), (9,)), 1)
        self.assertEqual(lift_count(("a", 9, 0), (10,)), 0)
        self.assertEqual(lift_log((("a", 4, 0), ("b", 4, 0), ("c", 4, 0)), (12,))[0][0], ())
        # A load of 13 is more than four for each of three strands only by a third.
        self.assertEqual(lift_count((("a", 4, 0), ("b", 4, 0), ("c", 4, 0)), (13,)), 0)
        self.assertEqual(remaining((("a", 4, 0), ("b", 5, 0), ("c", 9, 0)), (13,)), ())
        self.assertEqual(remaining((("a", 4, 0), ("b", 7, 0), ("c", 9, 0)), (13,)), (("b", 7), ("c", 9)))

    def test_zero_and_negative_strengths(self):
        self.assertEqual(remaining(("a", 5, 5), (5,)), (("a", 0),))
        self.assertEqual(remaining(("a", 5, 7), (5,)), (("a", -2),))
        self.assertEqual(remaining(("a", 5, 7), (5, 1)), ())
        self.assertEqual(remaining((("a", 1, 20), ("b", 99, 0)), (2,)), (("a", -19), ("b", 99)))
        self.assertEqual(lift_log((("a", 1, 1), ("b", 99, 0)), (2, 1)), [
            ((), (("a", (1, 1)), ("b", (1, 1)))), (("a",), (("b", (1, 1)),)),
        ])

    def test_destroyed_rig(self):
        for later in ((), (1,), (1, 1, 600)):
            self.assertEqual(lift_count(RIG, (19,) + later), 0)
            self.assertEqual(remaining(RIG, (19,) + later), ())
            self.assertEqual(lift_log(RIG, (19,) + later), [("a", "b")])
            self.assertEqual(lift_count(RIG, (10, 9, 10) + later), 2)
            self.assertEqual(remaining(RIG, (10, 9, 10) + later), ())
            self.assertEqual(lift_log(RIG, (10, 9, 10) + later)[2:], [("a",)])

    def test_chain_of_breaks(self):
        rig = (("a", 3, 0), (("b", 2, 0), ("c", 99, 0)), ("d", 1, 0))
        self.assertEqual(lift_log(rig, (9,)), [(("a", "b", "d"), (("c", (9, 1)),))])
        # The node of b and c carries half once d is gone, and c half of that.
        self.assertEqual(lift_log(rig, (6,)), [(("d",), (("a", (3, 1)), ("b", (3, 2)), ("c", (3, 2))))])

    def test_dead_node_gets_no_load(self):
        rig = ((("a", 1, 0), ("b", 1, 0)), ("c", 50, 0), ("d", 50, 0))
        self.assertEqual(lift_log(rig, (90,)), [(("a", "b"), (("c", (45, 1)), ("d", (45, 1))))])

    def test_one_strand(self):
        rig = ("rope", 10, 3)
        self.assertEqual(lift_count(rig, (10, 7, 4, 1, 1)), 4)
        self.assertEqual(remaining(rig, (10, 7)), (("rope", 4),))
        self.assertEqual(lift_log(rig, (10, 8)), [((), (("rope", (10, 1)),)), ("rope",)])
        rng = random.Random(203)
        for turn in range(200):
            rig = helper.random_rig(rng, 1)
            self.check(rig, helper.random_sequence(rng, rig))

    def test_lowest_terms(self):
        rig = (("a", 99, 0), ("b", 99, 0), (("c", 99, 0), ("d", 99, 0)))
        for load in range(1, 200):
            for broken, carried in lift_log(rig, (load,)):
                for name, (top, bottom) in carried:
                    self.assertEqual(gcd(top, bottom), 1)
                    self.assertEqual(top * (6 if name in "cd" else 3), load * bottom)
                    self.assertGreaterEqual(bottom, 1)

    def test_new_list_each_time(self):
        for sequence in ((), (10, 9), (10, 10, 1), (600,)):
            first = lift_log(RIG, sequence)
            again = list(first)
            second = lift_log(RIG, sequence)
            self.assertIsNot(first, second)
            first.append("changed")
            self.assertEqual(second, again)
            self.assertEqual(lift_log(RIG, sequence), again)


def random_light_load(rng, rig):
    return max(1, helper.random_load(rng, rig) // rng.randint(1, 4))


if __name__ == "__main__":
    unittest.main()
