"""How often, how heavy and how many: the limits of what a rig can lift."""

from wornrigs.holding import index_sets, least, least_strength, settle, strand_names, strands
from wornrigs.orders import is_feasible

LARGEST_LOAD = 600


def lifts_until_worn(strand, divisor, load):
    """How often the strand can carry its share of the load, which it can carry once; None if there is no limit."""
    name, strength, wear = strand
    if wear <= 0:
        return None
    return (strength - least_strength(load, divisor)) // wear + 1


def repeats(rig, load):
    """A pair: the repeat count of the load, and the subset that supports it, which is empty if the count is 0."""
    count, names = 0, ()
    divided = settle(rig, strand_names(rig), load, 0)
    while divided:
        names = tuple(sorted(divided))
        counts = [lifts_until_worn(strand, divided[strand[0]], load) for strand in strands(rig) if strand[0] in divided]
        limits = [limit for limit in counts if limit is not None]
        if not limits:
            return (None, names)
        # Nothing breaks until the first of these strands is worn out, so the lifts before that need no simulation.
        count = min(limits)
        divided = settle(rig, names, load, count)
    return (count, names)


def repeat_count(rig, load):
    """The number of times that the rig can lift the load, or None if there is no limit."""
    count, names = repeats(rig, load)
    return count


def repeat_subset(rig, load):
    """A subset that supports the repeat count of the load, or None if the repeat count is 0."""
    count, names = repeats(rig, load)
    return None if count == 0 else names


def largest_extra(rig, loads):
    """The largest load, at most 600, that is feasible together with the given ones, or None if there is none."""
    # If a load can be added, every lighter one can be added.
    too_heavy = least(1, LARGEST_LOAD + 1, lambda load: not is_feasible(rig, loads + (load,)))
    return too_heavy - 1 if too_heavy > 1 else None


def smallest_drop(rig, loads):
    """The ascending tuple of the indices of the fewest loads to drop, the first such tuple."""
    # The last of these sets drops all loads, and no loads at all are always feasible.
    for dropped in index_sets(len(loads)):
        kept = tuple(load for at, load in enumerate(loads) if at not in dropped)
        if is_feasible(rig, kept):
            break
    return dropped
