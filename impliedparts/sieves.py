"""Closed sets of arrows from a thing of a category."""

from impliedparts.choices import all_choices


def closed_sets(category, x):
    """The sets of arrows from x that have, with an arrow, what that and each arrow behind it make."""
    return [some for some in all_choices(category.arrows_from(x)) if is_closed(category, some)]


def is_closed(category, some):
    for f in some:
        for g in category.arrows_from(category.ends[f]):
            if category.what_make(f, g) not in some:
                return False
    return True
