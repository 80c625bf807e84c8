"""Parts: which things of a few are taken, the least takings first."""


def parts_of(things):
    """Returns the list of all parts of ascending things, as tuples, smaller ones first, those of one size ascending."""
    parts = [()]
    for thing in things:
        parts = parts + [part + (thing,) for part in parts]
    return [part for _, part in sorted([(len(part), part) for part in parts])]


def is_part(part, whole):
    """Returns whether each thing of the part stands in the whole."""
    return all([thing in whole for thing in part])


def in_common(part, other):
    """Returns whether the two have a thing in common."""
    return any([thing in other for thing in part])
