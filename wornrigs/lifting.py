"""What happens when a rig lifts a sequence of loads."""

from wornrigs.holding import lift_steps, strand_names, strengths_after


def lift_count(rig, sequence):
    """The number of lifts that succeed."""
    return len(lift_steps(rig, sequence))


def remaining(rig, sequence):
    """The ascending tuple of pairs (name, current strength) after the sequence, empty for a destroyed rig."""
    steps = lift_steps(rig, sequence)
    if len(steps) < len(sequence):
        return ()
    names = tuple(steps[-1]) if steps else strand_names(rig)
    strengths = strengths_after(rig, len(steps))
    return tuple(sorted((name, strengths[name]) for name in names))


def lift_log(rig, sequence):
    """A new list with a pair (broken, carried) for each success, and the names that break in the first failure."""
    names = strand_names(rig)
    log = []
    for load, divided in zip(sequence, lift_steps(rig, sequence)):
        broken = tuple(name for name in names if name not in divided)
        names = tuple(sorted(divided))
        carried = tuple((name, lowest_terms(load, divided[name])) for name in names)
        log.append((broken, carried))
    if len(log) < len(sequence):
        # A lift fails only when every strand breaks that the lifts before it left.
        log.append(names)
    return log


def lowest_terms(top, bottom):
    """The fraction of two integers, of which the lower one is at least 1."""
    common, rest = bottom, abs(top)
    while rest:
        common, rest = rest, common % rest
    return (top // common, bottom // common)
