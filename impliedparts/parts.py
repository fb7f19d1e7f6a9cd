"""Parts of a right instance, as lists of their rows in order."""

from impliedparts.choices import all_choices


def brought_part(instance, rows):
    """The least part that has these rows."""
    # One step along each arrow is enough: what two arrows make is an arrow, too.
    reached = []
    for row in rows:
        reached.extend(instance.led_to(row))
    return [row for row in instance.all_rows() if row in reached]


def met_part(p, q):
    return [row for row in p if row in q]


def joined_part(instance, p, q):
    return [row for row in instance.all_rows() if row in p or row in q]


def implied_part(instance, p, q):
    return [row for row in instance.all_rows() if row_implies(instance, row, p, q)]


def row_implies(instance, row, p, q):
    """Whether this row, wherever it leads into p, leads into q."""
    for led in instance.led_to(row):
        if led in p and led not in q:
            return False
    return True


def not_part(instance, p):
    return implied_part(instance, p, [])


def rows_between(instance, p):
    """The rows that neither p nor not p has: they're out of p, but lead into it."""
    without = not_part(instance, p)
    return [row for row in instance.all_rows() if row not in p and row not in without]


def is_within(p, q):
    return met_part(p, q) == p


def arrows_into(instance, row, p):
    """The arrows along which this row leads into p, rising."""
    return [f for f in instance.category.arrows_from(row[0]) if instance.led_along(f, row) in p]


def all_parts(instance):
    """All parts, in order."""
    return [some for some in all_choices(instance.all_rows()) if is_part(instance, some)]


def is_part(instance, rows):
    for row in rows:
        if not is_within(instance.led_to(row), rows):
            return False
    return True


def told_part(part):
    """How many rows the part has, then each: its thing, its number."""
    told = [len(part)]
    for row in part:
        told.append(row[0])
        told.append(row[1])
    return told
