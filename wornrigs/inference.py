"""What can be told from the strands that remain, and from repeat counts."""

from wornrigs.holding import strand_names
from wornrigs.limits import LARGEST_LOAD, repeat_count
from wornrigs.orders import next_states


def orders_after(rig, known, lifts):
    """A dict like `known`, from each state to the list of the orders that lead to it, after one more lift."""
    after = {}
    for before, orders in known.items():
        for load, state in next_states(rig, before, lifts):
            after[state] = after.get(state, []) + [order + (load,) for order in orders]
    return after


def matching_orders(rig, loads, names):
    """A new ascending list of the successful orders after which exactly the named strands remain."""
    known = {(loads, strand_names(rig)): [()]}
    for lifts in range(len(loads)):
        known = orders_after(rig, known, lifts)
    return sorted(known.get(((), names), []))


def first_difference(one, other):
    """The smallest load, from 1 to 600, for which the repeat counts of the two rigs differ, or None."""
    for load in range(1, LARGEST_LOAD + 1):
        count = repeat_count(one, load)
        if count != repeat_count(other, load):
            return load
        if count == 0:
            # No heavier load can be lifted either.
            break
    return None
