"""How several rigs share loads, and which tree of given strands lifts a load most often."""

from wornrigs.holding import held_names, index_sets, is_leaf, strand_names
from wornrigs.limits import repeat_count
from wornrigs.orders import heaviest_first


def assigned_one_more(yard, states, load):
    """The states that are reached when one of the rigs lifts the load (see `assign_loads`)."""
    after = {}
    for state, assignment in states.items():
        for at, rig in enumerate(yard):
            lifts, names = state[at]
            held = held_names(rig, names, load, lifts)
            if held:
                reached = state[:at] + ((lifts + 1, held),) + state[at + 1:]
                # The assignments come in ascending order, so the one that is known already is the first one.
                after.setdefault(reached, assignment + (at,))
    return after


def assign_loads(yard, loads):
    """The first assignment that works, or None if there is none.

    A state holds a pair (lifts, names that remain) for each rig. Assignments that reach the same state go on alike, so
    only the first one of them is followed. Each rig lifts its heaviest load first, which is its best order.
    """
    states = {tuple((0, strand_names(rig)) for rig in yard): ()}
    for load in heaviest_first(loads):
        states = assigned_one_more(yard, states, load)
    return min(states.values(), default=None)


def most_loads(yard, loads):
    """The largest number of the loads for which an assignment works if the others are dropped."""
    lightest_first = tuple(sorted(loads))
    # Lighter loads are never harder to lift, so it is enough to drop the heaviest ones.
    many = len(loads)
    while many > 0 and assign_loads(yard, lightest_first[:many]) is None:
        many -= 1
    return many


def fewest_rigs(yard, loads):
    """The ascending tuple of the indices of the fewest rigs that can lift all loads, the first such tuple, or None."""
    for chosen in index_sets(len(yard)):
        if assign_loads(tuple(yard[at] for at in chosen), loads) is not None:
            return chosen
    return None


def trees_with(tree, strand):
    """The list of all trees from which the given tree is left if the strand is taken out."""
    found = [(tree, strand)]
    if not is_leaf(tree):
        found.append(tree + (strand,))
        for at, child in enumerate(tree):
            found.extend([tree[:at] + (grown,) + tree[at + 1:] for grown in trees_with(child, strand)])
    return found


def all_trees(strands):
    """The list of all trees of exactly these strands; trees that differ only in the order of children count once."""
    trees = list(strands[:1])
    for strand in strands[1:]:
        trees = [grown for tree in trees for grown in trees_with(tree, strand)]
    return trees


def best_tree(strands, load):
    """A pair: the largest repeat count of the load among all trees of these strands, and a tree that reaches it."""
    best_count, best = 0, None
    for tree in all_trees(strands):
        count = repeat_count(tree, load)
        if count is None:
            return (None, tree)
        if best is None or count > best_count:
            best_count, best = count, tree
    return (best_count, best)
