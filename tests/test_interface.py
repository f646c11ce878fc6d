"""Points 1 and 2 and the section on the interface: what holds for every function."""

import copy
import importlib
import inspect
import random
import unittest

from tests import helper

INTERFACE = {
    "rigs": {"is_rig": ["value"]},
    "lifting": {
        "lift_count": ["rig", "sequence"], "remaining": ["rig", "sequence"], "lift_log": ["rig", "sequence"],
    },
    "witnesses": {"find_witness": ["rig", "sequence"], "is_witness": ["rig", "sequence", "value"]},
    "orders": {
        "is_feasible": ["rig", "loads"], "is_always_feasible": ["rig", "loads"], "best_remaining": ["rig", "loads"],
        "always_remaining": ["rig", "loads"], "count_orders": ["rig", "loads"], "first_order": ["rig", "loads"],
    },
    "limits": {
        "repeat_count": ["rig", "load"], "repeat_subset": ["rig", "load"], "largest_extra": ["rig", "loads"],
        "smallest_drop": ["rig", "loads"],
    },
    "repairs": {
        "smallest_strength": ["rig", "name", "loads"], "largest_wear": ["rig", "name", "loads"],
        "reinforcement": ["rig", "loads"],
    },
    "yards": {
        "assign_loads": ["yard", "loads"], "most_loads": ["yard", "loads"], "fewest_rigs": ["yard", "loads"],
        "best_tree": ["strands", "load"],
    },
    "inference": {"matching_orders": ["rig", "loads", "names"], "first_difference": ["one", "other"]},
}

BEYOND_RIGS = (
    tuple((letter, 9 + at, at) for at, letter in enumerate("abcdefgh")),
    (("a", 150, 25), ("b", 0, 0)),
    (("a", 9, 40), ("b", 120, 0), (("c", 99, 21), ("d", -3, 1))),
    (("a", 9, 0), (("b", 5, 5),)),
    (("a", 9, 0), ()),
    (("abcdefghij", 9, 0), ("Ab", 5, 5)),
    (((((((((("a", 9, 1), ("b", 9, 0)), ("c", 9, 1)), ("d", 9, 0)), ("e", 9, 1)), ("f", 9, 0)), ("g", 9, 1)),
       ("h", 9, 0))), ("i", 9, 1)),
)


def functions():
    for module, listed in INTERFACE.items():
        for name, parameters in listed.items():
            yield getattr(importlib.import_module("wornrigs." + module), name), parameters


def random_arguments(rng, parameters):
    """Allowed arguments; every list and tuple in them is the caller's own."""
    rig = helper.random_rig(rng, 4)
    names = helper.names_of(rig)
    strands = helper.strands_of(rig) if len(names) > 1 else [("a", 9, 1), ("b", 5, 0), ("c", 6, 2)]
    known = {
        "rig": rig,
        "sequence": helper.random_sequence(rng, rig),
        "loads": helper.random_loads(rng, rig, 4),
        "value": [rig, [rig, [list(names)]], (names,)][rng.randrange(3)],
        "load": helper.random_load(rng, rig),
        "name": rng.choice(names),
        "names": rng.choice([(), names] + helper.all_subsets(rig)),
        "yard": helper.random_yard(rng),
        "strands": tuple(sorted(strands)),
        "one": rig,
        "other": helper.random_rig(rng),
    }
    return [known[name] for name in parameters]


def first_name(tree):
    """The name of the leftmost strand."""
    return tree if isinstance(tree, str) else first_name(tree[0])


def beyond_arguments(rig, sequence, loads, parameters):
    """Arguments that go somewhat beyond the limits of the document."""
    name = first_name(rig)
    known = {
        "rig": rig, "sequence": sequence, "loads": loads, "value": (("a",),) * len(sequence),
        "load": max(loads, default=0), "name": name, "names": (name,), "yard": (rig, helper.RIG, rig, ("z", 150, 30)),
        "strands": (("a", 150, 0), ("b", 0, 25), ("c", 7, 2), ("d", 99, 20), ("e", 8, 3))[len(loads) - 5:],
        "one": rig, "other": (("a", 700, 0), rig),
    }
    return [known[parameter] for parameter in parameters]


class InterfaceTest(unittest.TestCase):
    def test_names_and_parameters(self):
        for module, listed in INTERFACE.items():
            loaded = importlib.import_module("wornrigs." + module)
            for name, parameters in listed.items():
                function = getattr(loaded, name)
                self.assertTrue(inspect.isfunction(function), name)
                self.assertEqual(function.__module__, "wornrigs." + module)
                self.assertEqual(list(inspect.signature(function).parameters), parameters)

    def test_arguments_are_unchanged_and_results_repeat(self):
        rng = random.Random(601)
        for function, parameters in functions():
            for turn in range(60):
                arguments = random_arguments(rng, parameters)
                before = copy.deepcopy(arguments)
                result = function(*arguments)
                self.assertEqual(arguments, before, function.__name__)
                self.assertEqual(repr(arguments), repr(before), function.__name__)
                self.assertEqual(repr(function(*before)), repr(result), function.__name__)

    def test_results_do_not_depend_on_earlier_calls(self):
        rng = random.Random(602)
        for function, parameters in functions():
            calls = [random_arguments(rng, parameters) for turn in range(30)]
            forth = [function(*arguments) for arguments in calls]
            back = [function(*arguments) for arguments in reversed(calls)]
            self.assertEqual(forth, back[::-1], function.__name__)

    def test_somewhat_beyond_the_limits(self):
        sequences = ((), (601, 700), (0, 0), (1,) * 15, (10 ** 40, 5), tuple(range(14, 0, -1)), (-1, 3))
        many_loads = ((), (0, 3), (700,), (1, 2, 3, 4, 5, 6, 7, 8), (4,) * 9, (10 ** 40,), (-1, 3))
        for rig in BEYOND_RIGS + (helper.RIG,):
            for function, parameters in functions():
                # Reinforcement is promised for four strands and four loads, and these are twice as many.
                short = function.__name__ == "reinforcement" and len(rig) > 6
                for sequence, loads in zip(sequences, many_loads):
                    function(*beyond_arguments(rig, sequence, loads[:4] if short else loads, parameters))

    def test_fractions_of_a_zero_load(self):
        lift_log = importlib.import_module("wornrigs.lifting").lift_log
        self.assertEqual(lift_log(helper.RIG, (0,)), [((), (("a", (0, 1)), ("b", (0, 1))))])

    def test_any_value(self):
        for value in helper.OTHER_KINDS:
            for function, parameters in functions():
                if "value" in parameters:
                    known = {"rig": helper.RIG, "sequence": (4, 3), "value": value}
                    self.assertIs(function(*[known[name] for name in parameters]), False)


if __name__ == "__main__":
    unittest.main()
