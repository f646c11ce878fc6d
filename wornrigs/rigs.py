"""Which values are rigs."""

MOST_STRANDS = 6
LARGEST_WEAR = 20


def is_between(value, low, high):
    """True if the value is an integer from low to high."""
    # Python counts True and False as integers, the document does not.
    return isinstance(value, int) and not isinstance(value, bool) and low <= value <= high


def is_name(value):
    """True if the value is a string of 1 to 8 letters from a to z."""
    return isinstance(value, str) and 1 <= len(value) <= 8 and all("a" <= letter <= "z" for letter in value)


def is_strand(value):
    """True if the value is a strand."""
    if not isinstance(value, tuple) or len(value) != 3:
        return False
    name, strength, wear = value
    return is_name(name) and is_between(strength, 1, 99) and is_between(wear, 0, LARGEST_WEAR)


def is_rig(value):
    """True if the value is a rig, whatever else it may be."""
    names = []
    waiting = [value]
    # Stopping at the first fault keeps wide and deep values cheap: no more than six strands are ever accepted.
    while waiting:
        part = waiting.pop()
        if is_strand(part):
            if part[0] in names or len(names) == MOST_STRANDS:
                return False
            names.append(part[0])
        elif isinstance(part, tuple) and len(part) >= 2:
            waiting.extend(part)
        else:
            return False
    return True
