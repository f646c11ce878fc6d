"""Points 6, 14 and 15: witnesses."""

import random
import unittest

from tests import helper
from wornrigs.witnesses import find_witness, is_witness

RIG = helper.RIG
OTHERS = helper.OTHER_KINDS + (
    ("b",), ("b", "a"), ("a", "a"), ("a", "a", "b"), ("zz",), ("a", "zz"), ("A",), "zz", ("a", None), ("a", 1),
    (("a", "b"),), "c", "cable", "rope", "z",
)


def random_true_witness(rng, rig, sequence):
    """Any witness, not only the largest one, or None."""
    before, witness = helper.names_of(rig), []
    for lifts, load in enumerate(sequence):
        fitting = [
            subset for subset in helper.all_subsets(rig)
            if set(subset) <= set(before) and helper.supports(rig, subset, load, lifts)
        ]
        if not fitting:
            return None
        before = rng.choice(fitting)
        witness.append(before)
    return tuple(witness)


class FindWitnessTest(unittest.TestCase):
    def test_example(self):
        self.assertEqual(find_witness(RIG, (10, 9)), (("a", "b"), ("a",)))

    def test_empty_sequence(self):
        rng = random.Random(301)
        for turn in range(50):
            self.assertEqual(find_witness(helper.random_rig(rng), ()), ())
        self.assertIs(type(find_witness(RIG, ())), tuple)

    def test_no_witness(self):
        self.assertIsNone(find_witness(RIG, (10, 10)))
        self.assertIsNone(find_witness(RIG, (9, 10)))
        self.assertIsNone(find_witness(("a", 9, 0), (10,)))
        self.assertIsNone(find_witness(("a", 9, 0), (10, 1)))

    def test_random(self):
        rng = random.Random(302)
        found = missing = 0
        for turn in range(1200):
            rig = helper.random_rig(rng)
            sequence = helper.random_sequence(rng, rig, rng.choice((2, 4, 12)))
            succeeds = helper.simulate(rig, sequence)[0] == len(sequence)
            witness = find_witness(rig, sequence)
            if succeeds:
                found += 1
                self.assertTrue(helper.is_witness(rig, sequence, witness), (rig, sequence, witness))
            else:
                missing += 1
                self.assertIsNone(witness, (rig, sequence))
                self.assertFalse(helper.has_witness(rig, sequence), (rig, sequence))
        self.assertGreater(min(found, missing), 200)


class IsWitnessTest(unittest.TestCase):
    def check(self, rig, sequence, value):
        wanted = helper.is_witness(rig, sequence, value)
        self.assertIs(is_witness(rig, sequence, value), wanted, (rig, sequence, value))
        return wanted

    def test_example(self):
        self.assertIs(is_witness(RIG, (10, 9), (("a", "b"), ("a", "b"))), False)

    def test_true_witnesses(self):
        self.assertIs(is_witness(RIG, (10, 9), (("a", "b"), ("a",))), True)
        self.assertIs(is_witness(RIG, (9, 9), (("a",), ("a",))), True)
        self.assertIs(is_witness(RIG, (), ()), True)
        self.assertIs(is_witness(("a", 9, 0), (9,), (("a",),)), True)
        self.assertIs(is_witness(RIG, (5,), (("b",),)), True)

    def test_limits_of_support(self):
        self.assertIs(is_witness(RIG, (10,), (("a",),)), False)
        self.assertIs(is_witness(RIG, (6,), (("b",),)), False)
        self.assertIs(is_witness(("a", 9, 2), (1, 1, 5), (("a",),) * 3), True)
        self.assertIs(is_witness(("a", 9, 2), (1, 1, 6), (("a",),) * 3), False)
        rig = ((("a", 4, 0), ("b", 4, 0)), ("c", 8, 0))
        self.assertIs(is_witness(rig, (16,), (("a", "b", "c"),)), True)
        self.assertIs(is_witness(rig, (17,), (("a", "b", "c"),)), False)
        self.assertIs(is_witness(rig, (8,), (("a", "c"),)), True)
        self.assertIs(is_witness(rig, (9,), (("a", "c"),)), False)

    def test_form(self):
        sequence = (4, 3)
        self.assertIs(is_witness(RIG, sequence, (("a", "b"), ("a",))), True)
        wrong = (
            (), (("a", "b"),), (("a", "b"), ("a",), ("a",)), (("a",), ("a", "b")), (("a",), ("b",)),
            (("b", "a"), ("a",)), (("a", "a"), ("a",)), (("a", "a", "b"), ("a",)), (("a", "b"), ("a", "a")),
            (("a", "b"), ()), ((), ()), ((), ("a",)), (("a", "c"), ("a",)), (("a", "b"), ("c",)), (("A",), ("A",)),
            ("ab", "a"), ("a", "a"), (("a", "b"), "a"), [("a", "b"), ("a",)], (["a", "b"], ["a"]),
            (("a", "b"), ["a"]), (("a", "b"), None), (("a", "b"), (("a",),)), (("a", True), ("a",)),
            (("a", None), ("a",)), ((0,), (0,)), (True, True), None, "ab", 2, True,
        )
        for value in wrong:
            self.assertIs(is_witness(RIG, sequence, value), False, value)

    def test_empty_sequence(self):
        for value in helper.OTHER_KINDS:
            self.assertIs(is_witness(RIG, (), value), value == ())

    def test_other_kinds(self):
        for sequence in ((), (1,), (1, 1), (4, 3, 2)):
            for value in OTHERS:
                self.check(RIG, sequence, value)
                self.check(RIG, sequence, (value,) * len(sequence))
                self.check(RIG, sequence, [value] * len(sequence))
                self.check(RIG, sequence, ((value,),) * len(sequence))
                self.check(RIG, sequence, (("a", value),) * len(sequence))

    def test_changed_witnesses(self):
        rng = random.Random(303)
        seen = {True: 0, False: 0}
        while sum(seen.values()) < 6000:
            rig = helper.random_rig(rng)
            sequence = helper.random_sequence(rng, rig, 5)
            witness = random_true_witness(rng, rig, sequence)
            if witness is None:
                continue
            self.assertTrue(self.check(rig, sequence, witness))
            once = helper.random_change(rng, witness, OTHERS)
            twice = helper.random_change(rng, once, OTHERS)
            swapped = tuple(tuple(reversed(subset)) for subset in witness)
            grown = witness[:-1] + (helper.names_of(rig),) if witness else ()
            for value in (
                once, twice, swapped, grown, witness[::-1], witness[:-1], witness[1:], witness + witness[-1:],
                witness + (("a",),), list(witness), tuple(list(subset) for subset in witness),
                witness[:-1] + ((),), (helper.names_of(rig),) * len(sequence),
            ):
                seen[self.check(rig, sequence, value)] += 1
        self.assertGreater(min(seen.values()), 1000, seen)

    def test_every_chain_of_subsets(self):
        rng = random.Random(304)
        for turn in range(60):
            rig = helper.random_rig(rng, 3)
            sequence = tuple(max(1, helper.random_load(rng, rig) // 2) for at in range(2))
            for first in helper.all_subsets(rig):
                for second in helper.all_subsets(rig):
                    self.check(rig, sequence, (first, second))


if __name__ == "__main__":
    unittest.main()
