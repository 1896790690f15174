"""Crews: sets of works, told by numbers. The work with the index `at` belongs to a crew if its bit `at` is set."""


def crew_of(members):
    """The crew of the works with these indexes, each of them told once."""
    return sum([1 << at for at in members])


def members_of(crew):
    """The ascending tuple of the indexes of the works in the crew."""
    return tuple([at for at in range(crew.bit_length()) if crew >> at & 1])


def ticks_of(way):
    """For a list of crews, one for each tick, the tuple of the tuples of their members; None for None."""
    if way is None:
        return None
    return tuple([members_of(crew) for crew in way])


def sizes_of_crews(many):
    """For each crew of so many works how many are in it."""
    sizes = [0]
    for _ in range(many):
        sizes = [*sizes, *[size + 1 for size in sizes]]
    return sizes


def parts_of_crews(many):
    """For each crew of so many works the crews that lie within it, the empty one and itself too."""
    parts = [[0]]
    for at in range(many):
        parts = [*parts, *[[*within, *[part + (1 << at) for part in within]] for within in parts]]
    return parts
