"""A second reading of the document for the tests, slow and by its words, and random cases to compare it with.

It works with fractions, lets one strand break at a time, and searches all subsets, all orders, all assignments and all
trees.
"""

import random
import re
from fractions import Fraction
from itertools import combinations, permutations, product

RIG = (("a", 9, 0), ("b", 5, 5))
NAMES = ("a", "ab", "b", "ba", "c", "cable", "d", "rope", "z", "zzzzzzzz")

DEEP_TUPLE = DEEP_LIST = DEEP_PAIR = ()
for level in range(20):
    DEEP_TUPLE, DEEP_LIST, DEEP_PAIR = (DEEP_TUPLE,), [DEEP_LIST], (DEEP_PAIR, DEEP_PAIR)

OTHER_KINDS = (
    None, True, False, 0, 1, -1, 10 ** 39, "", "a", "ab", "b", "A", (), [], ("a",), ["a"], ("a", "b"), ["a", "b"],
    (None,), ((),), ([],), (True,), (1, 2, 3), ("a", 1), ("a", 1, 2, 3), ("a", "b", "c"), (("a",),), [["a"]],
    DEEP_TUPLE, DEEP_LIST, DEEP_PAIR, (DEEP_LIST, "a", None, -7), [("a", 9, 0), ("b", 5, 5)],
)


# Rigs, by points 2 and 4.

def is_int(value):
    return type(value) is int


def is_strand(value):
    return (
        type(value) is tuple and len(value) == 3
        and type(value[0]) is str and re.fullmatch("[a-z]{1,8}", value[0]) is not None
        and is_int(value[1]) and value[1] in range(1, 100)
        and is_int(value[2]) and value[2] in range(0, 21)
    )


def is_tree(value):
    return is_strand(value) or (type(value) is tuple and len(value) >= 2 and all(is_tree(child) for child in value))


def is_rig(value):
    if not is_tree(value):
        return False
    names = [name for name, strength, wear in strands_of(value)]
    return len(names) <= 6 and len(set(names)) == len(names)


def strands_of(tree):
    if isinstance(tree[0], str):
        return [tree]
    return [strand for child in tree for strand in strands_of(child)]


def names_of(rig):
    return tuple(sorted(name for name, strength, wear in strands_of(rig)))


# Lifts, by point 5.

def loads_on(tree, load, alive):
    """What each strand in `alive` carries if the tree carries the load; at least one of them is in the tree."""
    if isinstance(tree[0], str):
        return {tree[0]: load}
    holding = [child for child in tree if any(name in alive for name, strength, wear in strands_of(child))]
    carried = {}
    for child in holding:
        carried.update(loads_on(child, load / len(holding), alive))
    return carried


def lift(rig, strengths, load, rng):
    """Lifts once, changing the dict of current strengths; returns what broke and what the rest carried."""
    broken = []
    while strengths:
        carried = loads_on(rig, Fraction(load), strengths)
        overloaded = sorted(name for name in strengths if carried[name] > strengths[name])
        if not overloaded:
            for name, strength, wear in strands_of(rig):
                if name in strengths:
                    strengths[name] -= wear
            return tuple(sorted(broken)), carried
        breaks = rng.choice(overloaded)
        broken.append(breaks)
        del strengths[breaks]
    return tuple(sorted(broken)), {}


def simulate(rig, sequence, seed=0):
    """Returns (count, remaining, log) as points 11 to 13 want them; strands break in a random order."""
    rng = random.Random(seed)
    strengths = {name: strength for name, strength, wear in strands_of(rig)}
    log = []
    for at, load in enumerate(sequence):
        broken, carried = lift(rig, strengths, load, rng)
        if not strengths:
            return at, (), log + [broken]
        pairs = tuple((name, (carried[name].numerator, carried[name].denominator)) for name in sorted(carried))
        log.append((broken, pairs))
    return len(sequence), tuple(sorted(strengths.items())), log


# Witnesses, by point 6.

def all_subsets(rig):
    names = names_of(rig)
    return [subset for many in range(1, len(names) + 1) for subset in combinations(names, many)]


def supports(rig, subset, load, lifts):
    carried = loads_on(rig, Fraction(load), subset)
    return all(
        carried[name] <= strength - lifts * wear for name, strength, wear in strands_of(rig) if name in subset
    )


def is_witness(rig, sequence, value):
    if type(value) is not tuple or len(value) != len(sequence):
        return False
    known = names_of(rig)
    for lifts, (load, subset) in enumerate(zip(sequence, value)):
        if type(subset) is not tuple or len(subset) < 1:
            return False
        if not all(type(name) is str and name in known for name in subset):
            return False
        if list(subset) != sorted(set(subset)):
            return False
        if not supports(rig, subset, load, lifts):
            return False
        known = subset
    return True


def has_witness(rig, sequence):
    reached = [names_of(rig)]
    for lifts, load in enumerate(sequence):
        reached = [
            subset for subset in all_subsets(rig)
            if supports(rig, subset, load, lifts) and any(set(subset) <= set(before) for before in reached)
        ]
    return bool(reached)


# Orders, by point 7.

def all_orders(loads):
    return sorted(set(permutations(loads)))


def successful_orders(rig, loads):
    """A dict from each order that succeeds, in ascending order, to the set of the names that remain after it."""
    ends = {}
    for order in all_orders(loads):
        count, left, log = simulate(rig, order)
        if count == len(order):
            ends[order] = {name for name, strength in left}
    return ends


def some_order_succeeds(rig, loads):
    """Whether an order succeeds; all orders are tried, and orders that begin alike are simulated together."""
    def goes_on(strengths, left):
        if not left:
            return True
        for load in sorted(set(left)):
            then = dict(strengths)
            lift(rig, then, load, random.Random(0))
            rest = list(left)
            rest.remove(load)
            if then and goes_on(then, rest):
                return True
        return False
    return goes_on({name: strength for name, strength, wear in strands_of(rig)}, loads)


class Feasibility:
    """Remembers which loads are feasible on one rig, because the searches below ask for the same ones many times."""

    def __init__(self, rig):
        self.rig = rig
        self.known = {}

    def __call__(self, loads):
        loads = tuple(sorted(loads))
        if loads not in self.known:
            self.known[loads] = some_order_succeeds(self.rig, loads)
        return self.known[loads]


def changed(tree, name, change):
    """The tree with one strand replaced by what the function makes of it."""
    if isinstance(tree[0], str):
        return change(*tree) if tree[0] == name else tree
    return tuple(changed(child, name, change) for child in tree)


# Repeat counts, by point 8.

def lifted_repeatedly(rig, load):
    """The repeat count, by lifting until the rig is destroyed or nothing can change any more."""
    strengths = {name: strength for name, strength, wear in strands_of(rig)}
    wears = {name: wear for name, strength, wear in strands_of(rig)}
    count = 0
    while True:
        lift(rig, strengths, load, random.Random(count))
        if not strengths:
            return count
        if all(wears[name] == 0 for name in strengths):
            return None
        count += 1


def supports_count(rig, subset, load, count):
    """Whether the subset supports the repeat count, which is not 0."""
    if count is None:
        unworn = all(wear == 0 for name, strength, wear in strands_of(rig) if name in subset)
        return unworn and supports(rig, subset, load, 0)
    return supports(rig, subset, load, count - 1)


def largest_supported_count(rig, load):
    """The repeat count, as the largest one that any subset supports."""
    best = 0
    for subset in all_subsets(rig):
        if supports_count(rig, subset, load, None):
            return None
        while supports_count(rig, subset, load, best + 1):
            best += 1
    return best


def heaviest_loads(rig):
    """A dict from each repeat count from 1 on, and from None, to the heaviest load that the rig lifts that often."""
    unworn = [name for name, strength, wear in strands_of(rig) if wear == 0]
    endless = [heaviest(rig, subset, 0) for subset in all_subsets(rig) if set(subset) <= set(unworn)]
    table = {None: max(endless, default=0)}
    count = 0
    while count == 0 or table[count] > table[None]:
        count += 1
        table[count] = max(heaviest(rig, subset, count - 1) for subset in all_subsets(rig))
    return table


def all_repeat_counts(rig, most=600):
    """The list of the repeat counts of the loads from 1 to the largest one."""
    table = heaviest_loads(rig)
    finite = [count for count in table if count is not None]
    counts = []
    for load in range(1, most + 1):
        reached = [count for count in finite if table[count] >= load]
        counts.append(None if load <= table[None] else max(reached, default=0))
    return counts


# Yards and trees, by points 9 and 4.

def first_assignment(yard, loads):
    """The first assignment that works, out of all of them, or None."""
    checks = [Feasibility(rig) for rig in yard]
    for chosen in product(range(len(yard)), repeat=len(loads)):
        if works(checks, loads, chosen):
            return chosen
    return None


def most_assigned(yard, loads):
    """The largest number of loads in an assignment that works, out of all of them with dropped loads."""
    checks = [Feasibility(rig) for rig in yard]
    best = 0
    for chosen in product([None, *range(len(yard))], repeat=len(loads)):
        many = len(loads) - chosen.count(None)
        if many > best and works(checks, loads, chosen):
            best = many
    return best


def works(checks, loads, chosen):
    """Whether each rig can lift the loads that are chosen for it; the choice follows the loads in descending order."""
    falling = sorted(loads, reverse=True)
    return all(check([load for load, at in zip(falling, chosen) if at == own]) for own, check in enumerate(checks))


def partitions(items):
    """All ways to divide the items into groups."""
    if not items:
        yield []
        return
    for many in range(len(items)):
        for companions in combinations(items[1:], many):
            group = (items[0],) + companions
            for others in partitions([item for item in items if item not in group]):
                yield [group] + others


def all_trees(strands):
    """All trees of exactly these strands, but each in only one order of its children."""
    if len(strands) == 1:
        return [strands[0]]
    trees = []
    for groups in partitions(list(strands)):
        if len(groups) > 1:
            trees.extend(product(*[all_trees(group) for group in groups]))
    return trees


# Random cases.

def random_tree(rng, strands):
    if len(strands) == 1:
        return strands[0]
    many = rng.randint(2, len(strands))
    cuts = [0] + sorted(rng.sample(range(1, len(strands)), many - 1)) + [len(strands)]
    return tuple(random_tree(rng, strands[low:high]) for low, high in zip(cuts, cuts[1:]))


def random_rig(rng, most=6):
    names = rng.sample(NAMES, rng.randint(1, most))
    top_wear = rng.choice((0, 2, 6, 20))
    top_strength = rng.choice((5, 12, 30, 99))
    return random_tree(rng, [(name, rng.randint(1, top_strength), rng.randint(0, top_wear)) for name in names])


def random_load(rng, rig):
    """A load about as heavy as the rig can just lift, often exactly a multiple of a strength."""
    name, strength, wear = rng.choice(strands_of(rig))
    if rng.random() < 0.4:
        return min(600, strength * rng.randint(1, 4))
    return rng.randint(1, min(600, 2 * strength))


def random_sequence(rng, rig, most=12):
    sequence = [random_load(rng, rig) for at in range(rng.randint(0, most))]
    return tuple(rng.choice((list, sorted, lambda loads: sorted(loads, reverse=True)))(sequence))


def heaviest(rig, subset, lifts):
    """The heaviest load that the subset supports after so many lifts."""
    shares = loads_on(rig, Fraction(1), subset)
    strands = [strand for strand in strands_of(rig) if strand[0] in subset]
    return min((strength - lifts * wear) / shares[name] for name, strength, wear in strands) // 1


def random_loads(rng, rig, most=6):
    """Loads, often with equal ones among them, and often so heavy that some orders succeed and others do not."""
    loads, subset = [], names_of(rig)
    for lifts in range(rng.randint(0, most)):
        if rng.random() < 0.3:
            subset = tuple(sorted(rng.sample(subset, rng.randint(1, len(subset)))))
        load = heaviest(rig, subset, lifts) - rng.choice((0, 0, 1, 3, -1))
        if loads and rng.random() < 0.25:
            load = loads[-1]
        loads.append(min(600, max(1, load)))
    return tuple(sorted(loads))


def lopsided_case(rng, most=4):
    """A rig of strong strands that wear out at once and weak ones that last, and loads for single strands of it.

    A weak strand that breaks under a heavy load is missing for the light load that it could have lifted later.
    """
    strands = []
    for name in rng.sample(NAMES, rng.randint(2, most)):
        strength = rng.randint(8, 20)
        weak = (name, strength // 2 + rng.randint(-2, 1), rng.choice((0, 0, 1)))
        strands.append(rng.choice(((name, strength, 20), weak)))
    lifted = rng.sample(strands, rng.randint(1, len(strands)))
    loads = [max(1, strength + rng.randint(-1, 1)) for name, strength, wear in lifted]
    return random_tree(rng, strands), tuple(sorted(loads))


def random_yard(rng, most_strands=4):
    """One to three rigs, often with the same names or equal."""
    yard = [random_rig(rng, most_strands)]
    for at in range(rng.randint(0, 2)):
        again = rng.choice(yard)
        others = (again, renamed(rng, random_rig(rng, most_strands), NAMES[:4]), random_rig(rng, most_strands))
        yard.append(rng.choice(others))
    if rng.random() < 0.5:
        # Rigs that wear out soon need each other.
        yard = [mapped(rig, lambda name, strength, wear: (name, strength, min(20, strength))) for rig in yard]
    return tuple(rng.sample(yard, len(yard)))


def renamed(rng, rig, names):
    """The rig with other names for its strands."""
    fresh = dict(zip(names_of(rig), rng.sample(names, len(names_of(rig)))))
    return mapped(rig, lambda name, strength, wear: (fresh[name], strength, wear))


def mapped(tree, change):
    """The tree with every strand replaced by what the function makes of it."""
    if isinstance(tree[0], str):
        return change(*tree)
    return tuple(mapped(child, change) for child in tree)


def shuffled(rng, tree):
    """The tree with the children of each node in another order."""
    if isinstance(tree[0], str):
        return tree
    return tuple(shuffled(rng, child) for child in rng.sample(tree, len(tree)))


def mirrored(tree):
    """The tree with the children of each node in reverse."""
    return tree if isinstance(tree[0], str) else tuple(mirrored(child) for child in reversed(tree))


def random_yard_loads(rng, yard, most=6):
    """Loads for a yard, which its rigs can just or just not lift."""
    loads = []
    for rig in yard:
        loads.extend(random_loads(rng, rig, 4))
    loads = rng.sample(loads, len(loads))[:rng.choice((most, rng.randint(0, most)))]
    if rng.random() < 0.3:
        loads = [max(1, load - rng.choice((0, 1, 2, 5))) for load in loads]
    return tuple(sorted(loads))


def random_change(rng, value, others):
    """The value with one part of it exchanged for another value, doubled, left out or made a list."""
    if type(value) is tuple and value and rng.random() < 0.75:
        at = rng.randrange(len(value))
        deed = rng.random()
        if deed < 0.7:
            return value[:at] + (random_change(rng, value[at], others),) + value[at + 1:]
        if deed < 0.8:
            return value[:at] + value[at + 1:]
        if deed < 0.9:
            return value[:at] + (value[at], value[at]) + value[at + 1:]
        return value[:at] + (rng.choice(value),) + value[at + 1:]
    if type(value) is tuple and rng.random() < 0.3:
        return list(value)
    return rng.choice(others)
