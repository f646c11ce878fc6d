"""Points 2, 4 and 10: which values are rigs."""

import random
import unittest

from tests import helper
from wornrigs.rigs import is_rig

OTHERS = helper.OTHER_KINDS + (
    2, 20, 21, 98, 99, 100, -5, "c", "abcdefgh", "abcdefghi", "a b", "a1", ("c", 5, 5), ("d", 99, 20), ("d", 100, 20),
    (("e", 1, 0), ("f", 1, 0)), ["c", 5, 5],
)


def strands(many):
    return tuple((letter, 5, 1) for letter in "abcdefghij"[:many])


class RigsTest(unittest.TestCase):
    def check(self, wanted, value):
        result = is_rig(value)
        self.assertIs(result, wanted, value)

    def test_example(self):
        self.check(False, (("a", 9, 0),))

    def test_rigs(self):
        self.check(True, ("a", 9, 0))
        self.check(True, helper.RIG)
        self.check(True, (("a", 20, 3), (("b", 9, 1), ("c", 9, 1))))
        self.check(True, (("a", 1, 0), ("b", 1, 0), ("c", 1, 0)))
        self.check(True, ((((((("a", 1, 0), ("b", 2, 1)), ("c", 3, 2)), ("d", 4, 3)), ("e", 5, 4)), ("f", 6, 5))))
        self.check(True, ("a", 9, 9))

    def test_random_rigs(self):
        rng = random.Random(101)
        for turn in range(500):
            self.check(True, helper.random_rig(rng))

    def test_changed_rigs(self):
        rng = random.Random(102)
        seen = {True: 0, False: 0}
        for turn in range(8000):
            value = helper.random_change(rng, helper.random_rig(rng), OTHERS)
            if turn % 2:
                value = helper.random_change(rng, value, OTHERS)
            wanted = helper.is_rig(value)
            seen[wanted] += 1
            self.check(wanted, value)
        self.assertGreater(min(seen.values()), 500)

    def test_number_of_strands(self):
        for many in range(2, 7):
            self.check(True, strands(many))
        for many in range(7, 11):
            self.check(False, strands(many))
        self.check(False, (strands(4), strands(7)[4:]))
        self.check(True, (strands(3), strands(6)[3:]))

    def test_equal_names(self):
        self.check(False, (("a", 9, 0), ("a", 5, 5)))
        self.check(False, (("a", 9, 0), ("b", 9, 0), ("a", 9, 0)))
        self.check(False, (("a", 9, 0), (("b", 9, 0), (("c", 1, 1), ("a", 1, 1)))))

    def test_few_children(self):
        self.check(False, ())
        self.check(False, ((), ()))
        self.check(False, (("a", 9, 0), ()))
        self.check(False, (("a", 9, 0), (("b", 9, 0),)))
        self.check(False, ((("a", 9, 0), ("b", 9, 0)),))

    def test_strengths(self):
        for strength, wanted in ((-1, False), (0, False), (1, True), (99, True), (100, False), (10 ** 39, False)):
            self.check(wanted, ("a", strength, 0))
            self.check(wanted, (("b", 9, 0), ("a", strength, 0)))

    def test_wears(self):
        for wear, wanted in ((-1, False), (0, True), (1, True), (20, True), (21, False), (-10 ** 39, False)):
            self.check(wanted, ("a", 9, wear))
            self.check(wanted, (("a", 9, wear), ("b", 9, 0)))

    def test_true_and_false_are_no_integers(self):
        for truth in (True, False):
            self.check(False, ("a", truth, 0))
            self.check(False, ("a", 9, truth))
            self.check(False, (("b", 9, 0), ("a", 9, truth)))
            self.check(False, (("b", truth, 0), ("a", 9, 0)))

    def test_names(self):
        for name in ("a", "z", "az", "abcdefgh", "zzzzzzzz"):
            self.check(True, (name, 9, 0))
        wrong = (
            "", "abcdefghi", "A", "aB", "Ab", "a1", "1", "a_", "_", "-", " ", "a ", " a", "a\n", "\n", "a.b", "`", "{",
            "\u00e4", "\u00df", "\u0430", "\uff41", "a\u0301", "\x00",
        )
        for name in wrong:
            self.check(False, (name, 9, 0))
            self.check(False, (("b", 9, 0), (name, 9, 0)))

    def test_lists(self):
        self.check(False, ["a", 9, 0])
        self.check(False, [("a", 9, 0), ("b", 5, 5)])
        self.check(False, (["a", 9, 0], ("b", 5, 5)))
        self.check(False, (("a", 9, 0), ["b", 5, 5]))
        self.check(False, (("a", 9, 0), [("b", 5, 5), ("c", 5, 5)]))

    def test_other_kinds(self):
        for value in helper.OTHER_KINDS:
            self.check(False, value)
            self.check(False, (value, ("a", 9, 0)))
            self.check(False, (("a", 9, 0), value))
            self.check(helper.is_rig((value, 9, 0)), (value, 9, 0))
        for value in ("a", "", None, [], (), [1], (1,)):
            self.check(False, ("a", value, 0))
            self.check(False, ("a", 9, value))
        self.check(False, ("a", 9))
        self.check(False, ("a", 9, 0, 0))
        self.check(False, ("a", "b", "c"))

    def test_deep_values(self):
        for bottom in ((), [], None, 1, "a", ("a", 9, 0), ("a", 0, 0)):
            alone, pair, wide, listed = bottom, bottom, bottom, bottom
            for level in range(25):
                alone, pair, wide, listed = (alone,), (pair, pair), (wide,) * 10, [listed]
            for value in (alone, pair, wide, listed):
                self.check(False, value)


if __name__ == "__main__":
    unittest.main()
