"""What must change in a rig so that given loads are feasible."""

from wornrigs.holding import (
    divisors, index_sets, is_leaf, least, least_strength, strand_names, strands, strengths_after,
)
from wornrigs.orders import heaviest_first, is_feasible
from wornrigs.rigs import LARGEST_WEAR


def strand_called(rig, name):
    """The strand of the rig that has the name."""
    return [strand for strand in strands(rig) if strand[0] == name][0]


def with_strand(tree, strand):
    """The tree with the strand in place of its own one of the same name."""
    if is_leaf(tree):
        return strand if tree[0] == strand[0] else tree
    return tuple(with_strand(child, strand) for child in tree)


def smallest_strength(rig, name, loads):
    """The smallest strength of the named strand, at least 1, for which the loads are feasible."""
    wear = strand_called(rig, name)[2]
    # With this strength the strand lifts all loads even if it is the only one that holds.
    enough = max([1] + [load + lifts * wear for lifts, load in enumerate(heaviest_first(loads))])
    return least(1, enough, lambda strength: is_feasible(with_strand(rig, (name, strength, wear)), loads))


def largest_wear(rig, name, loads):
    """The largest wear of the named strand, from 0 to 20, for which the loads are feasible, or None."""
    strength = strand_called(rig, name)[1]
    too_much = least(
        0, LARGEST_WEAR + 1, lambda wear: not is_feasible(with_strand(rig, (name, strength, wear)), loads)
    )
    return too_much - 1 if too_much > 0 else None


def subsets(names):
    """The list of all subsets of the names."""
    return [tuple(names[at] for at in chosen) for chosen in index_sets(len(names)) if chosen]


def lacking_strengths(rig, subset, load, lifts):
    """A dict from each name of the subset to the strength that its strand lacks to carry the load after so many lifts.

    Exactly the strands of the subset remain.
    """
    strengths = strengths_after(rig, lifts)
    divided = divisors(rig, subset)
    return {name: max(0, least_strength(load, divided[name]) - strengths[name]) for name in divided}


def increased(names, extras, lacking):
    """The increases of strength, one for each name, raised to what is lacking."""
    return tuple(max(extra, lacking.get(name, 0)) for name, extra in zip(names, extras))


def reinforcement(rig, loads):
    """The smallest total by which the strengths must be increased so that the loads are feasible.

    Loads are feasible if the descending order has a witness. So all witnesses are built up, lift by lift, each with
    the increases that it needs so far.
    """
    names = strand_names(rig)
    states = {(names, (0,) * len(names)): True}
    for lifts, load in enumerate(heaviest_first(loads)):
        after = {}
        for subset in subsets(names):
            lacking = lacking_strengths(rig, subset, load, lifts)
            for held, extras in states:
                if all([name in held for name in subset]):
                    after[(subset, increased(names, extras, lacking))] = True
        states = after
    return min([sum(extras) for held, extras in states], default=None)
