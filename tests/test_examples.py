"""Points 10 to 34: the worked examples, with exactly the results that the document shows, and those of README.md."""

import doctest
import unittest
from pathlib import Path

README = Path(__file__).resolve().parent.parent / "README.md"

EXAMPLES = """
>>> from wornrigs.rigs import is_rig
>>> is_rig((("a", 9, 0),))
False

>>> from wornrigs.lifting import lift_count
>>> rig = (("a", 9, 0), ("b", 5, 5))
>>> lift_count(rig, (10, 10))
1

>>> from wornrigs.lifting import remaining
>>> rig = (("a", 9, 0), ("b", 5, 5))
>>> remaining(rig, (10,))
(('a', 9), ('b', 0))

>>> from wornrigs.lifting import lift_log
>>> rig = (("a", 9, 0), ("b", 5, 5))
>>> lift_log(rig, (10, 9))
[((), (('a', (5, 1)), ('b', (5, 1)))), (('b',), (('a', (9, 1)),))]
>>> from wornrigs.lifting import lift_log
>>> rig = (("a", 9, 0), ("b", 5, 5))
>>> lift_log(rig, (10, 10, 1))
[((), (('a', (5, 1)), ('b', (5, 1)))), ('a', 'b')]

>>> from wornrigs.witnesses import find_witness
>>> rig = (("a", 9, 0), ("b", 5, 5))
>>> find_witness(rig, (10, 9))
(('a', 'b'), ('a',))

>>> from wornrigs.witnesses import is_witness
>>> rig = (("a", 9, 0), ("b", 5, 5))
>>> is_witness(rig, (10, 9), (("a", "b"), ("a", "b")))
False

>>> from wornrigs.orders import is_feasible
>>> rig = (("a", 9, 0), ("b", 5, 5))
>>> is_feasible(rig, (9, 10))
True

>>> from wornrigs.orders import is_always_feasible
>>> rig = (("a", 9, 0), ("b", 5, 5))
>>> is_always_feasible(rig, (9, 10))
False

>>> from wornrigs.orders import best_remaining
>>> rig = (("a", 9, 0), ("b", 5, 5))
>>> best_remaining(rig, (9, 10))
('a',)

>>> from wornrigs.orders import always_remaining
>>> rig = (("a", 9, 0), ("b", 5, 5))
>>> always_remaining(rig, (10,))
('a', 'b')

>>> from wornrigs.orders import count_orders
>>> rig = (("a", 9, 0), ("b", 5, 5))
>>> count_orders(rig, (9, 10))
1

>>> from wornrigs.orders import first_order
>>> rig = (("a", 9, 0), ("b", 5, 5))
>>> first_order(rig, (9, 10))
(10, 9)

>>> from wornrigs.limits import repeat_count
>>> rig = (("a", 20, 3), (("b", 9, 1), ("c", 9, 1)))
>>> repeat_count(rig, 12)
5

>>> from wornrigs.limits import repeat_subset
>>> rig = (("a", 20, 3), (("b", 9, 1), ("c", 9, 1)))
>>> repeat_subset(rig, 12)
('a', 'b', 'c')

>>> from wornrigs.limits import largest_extra
>>> rig = (("a", 9, 0), ("b", 5, 5))
>>> largest_extra(rig, (10,))
9

>>> from wornrigs.limits import smallest_drop
>>> rig = (("a", 9, 0), ("b", 5, 5))
>>> smallest_drop(rig, (9, 10, 10))
(1,)

>>> from wornrigs.repairs import smallest_strength
>>> rig = (("a", 1, 0), ("b", 5, 5))
>>> smallest_strength(rig, "a", (9, 10))
9

>>> from wornrigs.repairs import largest_wear
>>> rig = (("a", 9, 20), ("b", 5, 5))
>>> largest_wear(rig, "a", (9, 10))
0

>>> from wornrigs.repairs import reinforcement
>>> rig = (("a", 9, 0), ("b", 5, 5))
>>> reinforcement(rig, (10, 10))
1

>>> from wornrigs.yards import assign_loads
>>> yard = ((("a", 9, 0), ("b", 5, 5)), ("c", 10, 10))
>>> assign_loads(yard, (9, 10, 10))
(0, 1, 0)

>>> from wornrigs.yards import most_loads
>>> yard = ((("a", 9, 0), ("b", 5, 5)),)
>>> most_loads(yard, (9, 10, 10))
2

>>> from wornrigs.yards import fewest_rigs
>>> yard = (("c", 10, 10), (("a", 9, 0), ("b", 5, 5)))
>>> fewest_rigs(yard, (9, 10))
(1,)

>>> from wornrigs.yards import best_tree
>>> count, tree = best_tree((("a", 4, 1), ("b", 4, 1)), 4)
>>> count
3
>>> sorted(tree)
[('a', 4, 1), ('b', 4, 1)]
>>> repeat_count(tree, 4)
3

>>> from wornrigs.inference import matching_orders
>>> rig = (("a", 9, 0), ("b", 5, 5))
>>> matching_orders(rig, (9, 10), ("a",))
[(10, 9)]

>>> from wornrigs.inference import first_difference
>>> first_difference((("a", 9, 0), ("b", 5, 5)), (("a", 8, 0), ("b", 5, 5)))
9
"""


class ExamplesTest(unittest.TestCase):
    def check(self, text, place):
        examples = doctest.DocTestParser().get_doctest(text, {}, place, None, 0)
        report = []
        failed, tried = doctest.DocTestRunner().run(examples, out=report.append)
        self.assertEqual(failed, 0, "".join(report))
        return tried

    def test_document(self):
        self.assertEqual(self.check(EXAMPLES, "the document"), EXAMPLES.count(">>>"))

    def test_readme(self):
        self.assertGreater(self.check(README.read_text(), "README.md"), 10)


if __name__ == "__main__":
    unittest.main()
