"""All ways to take some of several members."""


def all_choices(members):
    """In order: at the first member that just one of two has, the one that hasn't it comes first."""
    found = [[]]
    for member in members:
        longer = []
        for some in found:
            longer.append(some)
            longer.append(some + [member])
        found = longer
    return found
