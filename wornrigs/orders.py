"""In which orders a rig can lift given loads."""

from wornrigs.holding import held_names, strand_names
from wornrigs.lifting import lift_count, remaining


def heaviest_first(loads):
    """The descending order of the loads, which succeeds if any order does."""
    return tuple(sorted(loads, reverse=True))


def is_feasible(rig, loads):
    """True if at least one order of the loads succeeds."""
    return lift_count(rig, heaviest_first(loads)) == len(loads)


def is_always_feasible(rig, loads):
    """True if every order of the loads succeeds."""
    # If the ascending order succeeds, every order does.
    return lift_count(rig, tuple(sorted(loads))) == len(loads)


def best_remaining(rig, loads):
    """The names that remain after the best successful order, or None if no order succeeds."""
    if not is_feasible(rig, loads):
        return None
    # Every strand that remains after some successful order remains after the descending one.
    return tuple(name for name, strength in remaining(rig, heaviest_first(loads)))


def without(loads, load):
    """The loads as a tuple, less one load that is equal to the given one."""
    at = loads.index(load)
    return loads[:at] + loads[at + 1:]


def next_states(rig, state, lifts):
    """A list of pairs (load, state): what each load that is left leads to if it is lifted next and the lift succeeds.

    A state is a pair (loads left, names that remain), here after so many lifts.
    """
    left, names = state
    reached = []
    for load in sorted(set(left)):
        held = held_names(rig, names, load, lifts)
        if held:
            reached.append((load, (without(left, load), held)))
    return reached


def states_after(rig, states, lifts):
    """The states that one more lift reaches from the given ones after so many lifts (see `end_states`)."""
    after = {}
    for before, (count, first) in states.items():
        for load, state in next_states(rig, before, lifts):
            order = first + (load,)
            known_count, known_first = after.get(state, (0, order))
            after[state] = (known_count + count, min(known_first, order))
    return after


def end_states(rig, loads):
    """A dict of what the successful orders end in: (loads left, names that remain) to (number of orders, first order).

    Orders that have lifted the same loads so far and have left the same strands go on alike, so they are counted as
    one state instead of being followed one by one.
    """
    states = {(tuple(loads), strand_names(rig)): (1, ())}
    for lifts in range(len(loads)):
        states = states_after(rig, states, lifts)
    return states


def always_remaining(rig, loads):
    """The ascending tuple of the names that remain after every successful order, or None if there is none."""
    ends = [names for left, names in end_states(rig, loads)]
    if not ends:
        return None
    return tuple(name for name in ends[0] if all([name in names for names in ends]))


def count_orders(rig, loads):
    """The number of different orders that succeed."""
    return sum([count for count, first in end_states(rig, loads).values()])


def first_order(rig, loads):
    """The first order that succeeds, or None if there is none."""
    return min([first for count, first in end_states(rig, loads).values()], default=None)
