"""Parts of a right instance, as lists of their rows in order."""


def brought_part(instance, rows):
    """The least part that has these rows."""
    # One step along each arrow is enough: what two arrows make is an arrow, too.
    reached = []
    for row in rows:
        reached.extend(instance.led_to(row))
    return [row for row in instance.all_rows() if row in reached]


def met_part(p, q):
    return [row for row in p if row in q]


def joined_part(instance, p, q):
    return [row for row in instance.all_rows() if row in p or row in q]


def implied_part(instance, p, q):
    return [row for row in instance.all_rows() if row_implies(instance, row, p, q)]


def row_implies(instance, row, p, q):
    """Whether this row, wherever it leads into p, leads into q."""
    for led in instance.led_to(row):
        if led in p and led not in q:
            return False
    return True


def told_part(part):
    """How many rows the part has, then each: its thing, its number."""
    told = [len(part)]
    for row in part:
        told.append(row[0])
        told.append(row[1])
    return told
