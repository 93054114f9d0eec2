"""Bits: whether states can be told in fields of two values each, and by which CUTS."""

from itertools import combinations

from oldornew.boxes import in_all
from oldornew.charts import names
from oldornew.errors import NoReader
from oldornew.families import is_family, least_families, mask_of
from oldornew.plain import as_tuples, in_order, is_ascending


def to_part(chart, long):
    return least_families(chart, long, 2)


def has_bits(chart, long):
    return meeting_family(chart, long) is None


def meeting_family(chart, long):
    for family in least_families(chart, long, long + 2):
        # In a greater one each two meet, as they do when a third one is left out.
        if len(family) > 2:
            return family
    return None


def is_meeting_family(chart, long, thing):
    if not is_family(chart, long, thing):
        return False
    members = list(thing)
    return all([in_all(chart, pair) != () for pair in combinations(members, 2)])


def is_cut(chart, thing):
    if not isinstance(thing, tuple) or len(thing) == 0:
        return False
    everyone = names(chart)
    if not all([name in everyone for name in thing]):
        return False
    return is_ascending(thing) and thing[0] == everyone[0]


def is_cut_list(chart, long, thing):
    if not isinstance(thing, tuple) or not all([is_cut(chart, cut) for cut in thing]):
        return False
    if not is_ascending(thing):
        return False
    cuts = [mask_of(names(chart), cut) for cut in thing]
    return all([len(parting_cuts(cuts, pair)) > 0 for pair in masks_to_part(chart, long)])


def masks_to_part(chart, long):
    """Return to_part, with a mask in the place of each EVENT."""
    everyone = names(chart)
    return [(mask_of(everyone, one), mask_of(everyone, other)) for one, other in to_part(chart, long)]


def parting_cuts(cuts, pair):
    """Return those of the CUTS that part the two sets of states, all as masks."""
    one, other = pair
    # What a CUT has of both together must be one of them, whole.
    return [cut for cut in cuts if cut & (one | other) in pair]


def bits_by(chart, cuts):
    sizes = (2,) * len(cuts)
    states = [(name, tuple([0 if name in cut else 1 for cut in cuts])) for name in names(chart)]
    return sizes, tuple(states), as_tuples(chart[2])


def fewest_cuts(chart, long):
    if not has_bits(chart, long):
        return None
    return len(least_cuts(chart, long))


def some_cuts(chart, long):
    if not has_bits(chart, long):
        raise NoReader()
    everyone = names(chart)
    # The least state alone is a CUT, too, where none is needed.
    cuts = least_cuts(chart, long) or [1]
    return in_order([tuple([name for at, name in enumerate(everyone) if cut >> at & 1]) for cut in cuts])


def least_cuts(chart, long):
    """Return the fewest CUTS, as masks, that part all that is to be parted."""
    # A CUT has the least state, which is bit 0.
    cuts = list(range(1, 1 << len(chart[1]), 2))
    rows = [parting_cuts(cuts, pair) for pair in masks_to_part(chart, long)]
    many = 0
    found = cuts_within(rows, many)
    while found is None:
        many += 1
        found = cuts_within(rows, many)
    return found


def cuts_within(rows, many):
    """Return at most so many CUTS of which each row has one; None if there are none."""
    if len(rows) == 0:
        return []
    if many == 0:
        return None
    for cut in min(rows, key=len):
        more = cuts_within([row for row in rows if cut not in row], many - 1)
        if more is not None:
            return [cut, *more]
    return None
