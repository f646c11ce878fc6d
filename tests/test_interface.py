"""Points 1 and 2 and the section on the interface: what holds for every function."""

import copy
import importlib
import inspect
import random
import unittest

from tests import helper

INTERFACE = {
    "rigs": {"is_rig": ["value"]},
    "lifting": {
        "lift_count": ["rig", "sequence"], "remaining": ["rig", "sequence"], "lift_log": ["rig", "sequence"],
    },
    "witnesses": {"find_witness": ["rig", "sequence"], "is_witness": ["rig", "sequence", "value"]},
    "orders": {
        "is_feasible": ["rig", "loads"], "is_always_feasible": ["rig", "loads"], "best_remaining": ["rig", "loads"],
        "always_remaining": ["rig", "loads"], "count_orders": ["rig", "loads"], "first_order": ["rig", "loads"],
    },
}

BEYOND_RIGS = (
    tuple((letter, 9 + at, at) for at, letter in enumerate("abcdefgh")),
    (("a", 150, 25), ("b", 0, 0)),
    (("a", 9, 40), ("b", 120, 0), (("c", 99, 21), ("d", -3, 1))),
    (("a", 9, 0), (("b", 5, 5),)),
    (("a", 9, 0), ()),
    (("abcdefghij", 9, 0), ("Ab", 5, 5)),
    (((((((((("a", 9, 1), ("b", 9, 0)), ("c", 9, 1)), ("d", 9, 0)), ("e", 9, 1)), ("f", 9, 0)), ("g", 9, 1)),
       ("h", 9, 0))), ("i", 9, 1)),
)


def functions():
    for module, listed in INTERFACE.items():
        for name, parameters in listed.items():
            yield getattr(importlib.import_module("wornrigs." + module), name), parameters


def random_arguments(rng, parameters):
    """Allowed arguments; every list and tuple in them is the caller's own."""
    rig = helper.random_rig(rng)
    known = {
        "rig": rig,
        "sequence": helper.random_sequence(rng, rig),
        "loads": helper.random_loads(rng, rig, 4),
        "value": [rig, [rig, [list(helper.names_of(rig))]], (helper.names_of(rig),)][rng.randrange(3)],
    }
    return [known[name] for name in parameters]


class InterfaceTest(unittest.TestCase):
    def test_names_and_parameters(self):
        for module, listed in INTERFACE.items():
            loaded = importlib.import_module("wornrigs." + module)
            for name, parameters in listed.items():
                function = getattr(loaded, name)
                self.assertTrue(inspect.isfunction(function), name)
                self.assertEqual(function.__module__, "wornrigs." + module)
                self.assertEqual(list(inspect.signature(function).parameters), parameters)

    def test_arguments_are_unchanged_and_results_repeat(self):
        rng = random.Random(601)
        for function, parameters in functions():
            for turn in range(60):
                arguments = random_arguments(rng, parameters)
                before = copy.deepcopy(arguments)
                result = function(*arguments)
                self.assertEqual(arguments, before, function.__name__)
                self.assertEqual(repr(arguments), repr(before), function.__name__)
                self.assertEqual(repr(function(*before)), repr(result), function.__name__)

    def test_results_do_not_depend_on_earlier_calls(self):
        rng = random.Random(602)
        for function, parameters in functions():
            calls = [random_arguments(rng, parameters) for turn in range(30)]
            forth = [function(*arguments) for arguments in calls]
            back = [function(*arguments) for arguments in reversed(calls)]
            self.assertEqual(forth, back[::-1], function.__name__)

    def test_somewhat_beyond_the_limits(self):
        sequences = ((), (601, 700), (0, 0), (1,) * 15, (10 ** 40, 5), tuple(range(14, 0, -1)), (-1, 3))
        many_loads = ((), (0, 3), (700,), (1, 2, 3, 4, 5, 6, 7, 8), (4,) * 9, (10 ** 40,), (-1, 3))
        for rig in BEYOND_RIGS + (helper.RIG,):
            for function, parameters in functions():
                for sequence, loads in zip(sequences, many_loads):
                    known = {"rig": rig, "sequence": sequence, "loads": loads, "value": (("a",),) * len(sequence)}
                    function(*[known[name] for name in parameters])

    def test_fractions_of_a_zero_load(self):
        lift_log = importlib.import_module("wornrigs.lifting").lift_log
        self.assertEqual(lift_log(helper.RIG, (0,)), [((), (("a", (0, 1)), ("b", (0, 1))))])

    def test_any_value(self):
        for value in helper.OTHER_KINDS:
            for function, parameters in functions():
                if "value" in parameters:
                    known = {"rig": helper.RIG, "sequence": (4, 3), "value": value}
                    self.assertIs(function(*[known[name] for name in parameters]), False)


if __name__ == "__main__":
    unittest.main()
