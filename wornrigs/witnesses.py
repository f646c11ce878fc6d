"""Witnesses: the proof that a sequence succeeds."""

from wornrigs.holding import lift_steps, strand_names, supports


def find_witness(rig, sequence):
    """A witness for the sequence, or None if the sequence does not succeed."""
    steps = lift_steps(rig, sequence)
    if len(steps) < len(sequence):
        return None
    return tuple(tuple(sorted(divided)) for divided in steps)


def is_subset(value, names):
    """True if the value is an ascending tuple of one or more of the names, which are ascending themselves."""
    if not isinstance(value, tuple) or len(value) == 0:
        return False
    return value == tuple(name for name in names if name in value)


def is_witness(rig, sequence, value):
    """True if the value is a witness for the sequence, whatever else it may be."""
    if not isinstance(value, tuple) or len(value) != len(sequence):
        return False
    names = strand_names(rig)
    for lifts, load in enumerate(sequence):
        subset = value[lifts]
        if not is_subset(subset, names) or not supports(rig, subset, load, lifts):
            return False
        names = subset
    return True
