"""Maps from one right instance to another, as lists of the numbers to which rows are taken."""


def maps_between(source, target):
    """All maps from source to target, in order."""
    rows = source.all_rows()
    found = [[]]
    # Row by row, so that a beginning that can't be gone on with is dropped at once.
    for k, row in enumerate(rows):
        found = longer_maps(found, target, target.sizes[row[0]], ties_closed_by(source, rows, k))
    return found


def ties_closed_by(source, rows, k):
    """The ties (a, f, b), rows[a] leads along f to rows[b], of which k is the later row."""
    ties = []
    for a in range(k + 1):
        for f in source.category.arrows_from(rows[a][0]):
            b = rows.index((source.category.ends[f], source.leads[f][rows[a][1]]))
            if max(a, b) == k:
                ties.append((a, f, b))
    return ties


def longer_maps(found, target, size, ties):
    """These beginnings of maps, each with one more row in all ways that keep the ties."""
    longer = []
    for taken in found:
        for v in range(size):
            tried = taken + [v]
            if keeps_ties(target, tried, ties):
                longer.append(tried)
    return longer


def keeps_ties(target, taken, ties):
    for a, f, b in ties:
        if target.leads[f][taken[a]] != taken[b]:
            return False
    return True
