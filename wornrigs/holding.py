"""How a rig holds its loads, and two small searches: the one helper that the other modules share.

A strand always carries the load divided by a whole number, the product of the numbers of holding children on the way
from the root to the strand. This number is called the divisor of the strand.
"""


def is_leaf(tree):
    """True if the tree is a strand, False if it is a node."""
    # The children of a node are tuples, so only a strand begins with a string.
    return len(tree) == 3 and isinstance(tree[0], str)


def strands(tree):
    """The list of the strands of the tree, from left to right."""
    if is_leaf(tree):
        return [tree]
    return [strand for child in tree for strand in strands(child)]


def strand_names(rig):
    """The ascending tuple of the names of all strands of the rig."""
    return tuple(sorted(name for name, strength, wear in strands(rig)))


def strengths_after(rig, lifts):
    """A dict from each name to the strength that its strand has after so many lifts, if it remains."""
    return {name: strength - lifts * wear for name, strength, wear in strands(rig)}


def divisors(tree, names):
    """A dict from each name that the tree contains to its divisor, if exactly the named strands remain."""
    if is_leaf(tree):
        return {tree[0]: 1} if tree[0] in names else {}
    parts = [divisors(child, names) for child in tree]
    sharing = [part for part in parts if part]
    return {name: part[name] * len(sharing) for part in sharing for name in part}


def least_strength(load, divisor):
    """The smallest whole strength that carries the load divided by the divisor."""
    # Rounding down the negative load rounds up the load.
    return -(-load // divisor)


def unbroken(divided, strengths, load):
    """The list of the names in `divided`, a dict of divisors, whose strands do not carry too much."""
    # Multiplying the strength instead of dividing the load keeps everything in integers.
    return [name for name in divided if load <= strengths[name] * divided[name]]


def supports(rig, names, load, lifts):
    """True if exactly the named strands carry the load after so many lifts and none of them breaks."""
    divided = divisors(rig, names)
    return len(unbroken(divided, strengths_after(rig, lifts), load)) == len(divided)


def settle(rig, names, load, lifts):
    """The divisors of those of the named strands that remain when the load is lifted after so many lifts."""
    strengths = strengths_after(rig, lifts)
    divided = divisors(rig, names)
    whole = unbroken(divided, strengths, load)
    # All strands that carry too much break at once here, because the order of breaking does not matter.
    while len(whole) < len(divided):
        divided = divisors(rig, whole)
        whole = unbroken(divided, strengths, load)
    return divided


def held_names(rig, names, load, lifts):
    """The ascending tuple of those of the named strands that remain when the load is lifted after so many lifts."""
    return tuple(sorted(settle(rig, names, load, lifts)))


def lift_steps(rig, sequence):
    """A list with the divisors of the strands that remain in each lift that succeeds."""
    names = strand_names(rig)
    steps = []
    for lifts, load in enumerate(sequence):
        divided = settle(rig, names, load, lifts)
        if not divided:
            break
        steps.append(divided)
        names = tuple(divided)
    return steps


def least(low, high, holds):
    """The smallest number from low to high that `holds` is true of.

    It must be true of all larger numbers too; of `high` it is taken to be true, without being asked.
    """
    while low < high:
        middle = (low + high) // 2
        if holds(middle):
            high = middle
        else:
            low = middle + 1
    return low


def index_sets(many):
    """The list of all ascending tuples of indices below `many`: those with the fewest members first, then ascending."""
    found = []
    equal_size = [()]
    while equal_size:
        found.extend(equal_size)
        equal_size = [
            chosen + (at,) for chosen in equal_size for at in range(chosen[-1] + 1 if chosen else 0, many)
        ]
    return found
