"""CHARTS that can be read: those of which a right READER exists."""

from itertools import combinations

from oldornew.boxes import columns_of, common_word, is_in_box
from oldornew.charts import names, near_by_name, words_by_name
from oldornew.families import is_family, least_families, mask_of
from oldornew.plain import is_pair
from oldornew.walks import events


def boxes_by_event(chart, long):
    """Return a dict: for each EVENT over long, ascending, the values of its BOX."""
    words = words_by_name(chart)
    return {event: columns_of([words[name] for name in event]) for event in events(chart, long)}


def masks_by_event(chart, long):
    """Return a dict: for each EVENT over long the values of its BOX, as a mask for each field."""
    words = words_by_name(chart)
    values = columns_of(list(words.values()))
    boxes = boxes_by_event(chart, long)
    return {event: masks_of(values, boxes[event]) for event in boxes}


def masks_of(values, columns):
    return [mask_of(known, column) for known, column in zip(values, columns)]


def is_unparted(masks, family):
    """Tell whether no field parts these EVENTS, whose masks are handed in."""
    common = masks[family[0]]
    for event in family[1:]:
        common = [one & other for one, other in zip(common, masks[event])]
    return 0 not in common


def is_right(chart, long):
    return bar(chart, long) is None


def longest_look(chart):
    for long in (2, 1, 0):
        if is_right(chart, long):
            return long
    return None


def bar(chart, long):
    masks = masks_by_event(chart, long)
    for family in least_families(chart, long, long + 2):
        if is_unparted(masks, family):
            return common_word(chart, family), family
    return None


def is_bar(chart, long, thing):
    if not is_pair(thing):
        return False
    word, family = thing
    if not is_family(chart, long, family):
        return False
    return all([is_in_box(chart, event, word) for event in family])


def unparted_pairs(chart, long):
    masks = masks_by_event(chart, long)
    return [pair for pair in least_families(chart, long, 2) if is_unparted(masks, pair)]


def unparted_threes(chart):
    near = near_by_name(chart)
    words = words_by_name(chart)
    everyone = list(names(chart))
    found = []
    for one, other, third in combinations(everyone, 3):
        if other in near[one] and third in near[one] and third in near[other]:
            if not have_three_values(words[one], words[other], words[third]):
                found.append((one, other, third))
    return found


def have_three_values(one, other, third):
    """Tell whether three unlike values stand at some field of these WORDS."""
    return any([len(set(column)) == 3 for column in zip(one, other, third)])


def events_at(chart, long, word):
    boxes = boxes_by_event(chart, long)
    return [event for event in boxes if is_in_columns(boxes[event], word)]


def is_in_columns(columns, word):
    return all([value in column for value, column in zip(word, columns)])
