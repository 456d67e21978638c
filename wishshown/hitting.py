"""Hitting sets: lists of items that have an item of each group."""

from wishshown.bits import how_many, is_within, places_in, union


def hits(chosen, groups):
    """Tell whether the chosen items have one of each group."""
    return all(any(item in chosen for item in group) for group in groups)


def is_least(chosen, groups):
    """Tell whether the chosen items hit the groups, and no longer do so if any one of them is left out."""
    if not hits(chosen, groups):
        return False
    return not any(hits(_without_place(chosen, place), groups) for place in range(len(chosen)))


def shrink(chosen, groups):
    """What is left of the chosen items if each one that is not needed is left out, from the first to the last."""
    left = list(chosen)
    for item in chosen:
        place = left.index(item)
        if hits(_without_place(left, place), groups):
            left = _without_place(left, place)
    return left


def _without_place(items, place):
    return items[:place] + items[place + 1:]


def minimal_groups(groups):
    """The minimal groups, in their order."""
    _, numbers = _numbered(groups)
    return [list(groups[place]) for place in _minimal_places(numbers)]


def least_hitting_sets(groups):
    """All least hitting sets."""
    items, numbers = _numbered(groups)
    found = sorted([places_in(chosen) for chosen in least_hitting(numbers)])
    return [[items[place] for place in places] for places in found]


def smallest_hitting_set(groups):
    """The first one of the hitting sets with the fewest items; None if no list hits the groups."""
    items, numbers = _numbered(groups)
    if 0 in numbers:
        return None
    rest = [numbers[place] for place in _minimal_places(numbers)]
    most = 0
    while not _can_hit(rest, most):
        most += 1
    chosen = []
    for place, item in enumerate(items):
        # The first set in the order has an item if any set that is small enough has it and what was chosen before.
        others = [group for group in rest if not group & 1 << place]
        if _can_hit(others, most - len(chosen) - 1):
            chosen.append(item)
            rest = others
        else:
            rest = [group & ~(1 << place) for group in rest]
    return chosen


def _numbered(groups):
    """The items in the order of their places, and for each group the number with the places of its items."""
    items = []
    numbers = []
    for group in groups:
        # Items are looked up in a list, as they may be nested too deep for the keys of a dict.
        items.extend([item for item in group if item not in items])
        numbers.append(union([1 << items.index(item) for item in group]))
    return (items, numbers)


def _minimal_places(groups):
    """The places of the minimal ones of the groups, which are numbers with the places of their items."""
    first = {}
    for place, group in enumerate(groups):
        first.setdefault(group, place)
    least = []
    for group in sorted(list(first), key=how_many):
        if not any(is_within(other, group) for other in least):
            least.append(group)
    return sorted([first[group] for group in least])


def least_hitting(groups, allows=None):
    """All least hitting sets of groups, each a number with the places of its items, in no promised order.

    If allows is given, it is asked about a set, and whether it hits all groups, before the set is built on or found.
    What it does not allow is left aside; so it must not allow a set that has the items of one that it does not allow.
    """
    groups = [groups[place] for place in _minimal_places(groups)]
    numbers = _group_numbers(groups)
    found = []
    waiting = [(0, [], (1 << len(groups)) - 1, union(groups))]
    while waiting:
        chosen, own, unhit, free = waiting.pop()
        if unhit == 0:
            found.append(chosen)
            continue
        options = _fewest([groups[place] & free for place in places_in(unhit)])
        free &= ~options
        for place in places_in(options):
            outside = ~numbers[place]
            # Each chosen item must keep a group that is hit by it alone. An item that takes the last such group
            # away, or is not allowed, cannot come later on either, so it does not become free again.
            kept = [alone & outside for alone in own]
            more = chosen | 1 << place
            if 0 not in kept and (allows is None or allows(more, unhit & outside == 0)):
                waiting.append((more, kept + [unhit & numbers[place]], unhit & outside, free))
                free |= 1 << place
    return found


def _group_numbers(groups):
    """For each place in the groups the number with the places of the groups that have it."""
    numbers = {}
    for count, group in enumerate(groups):
        for place in places_in(group):
            numbers[place] = numbers.get(place, 0) | 1 << count
    return numbers


def _fewest(groups):
    """The first one of the groups with the fewest items."""
    return min(groups, key=how_many)


def _can_hit(groups, most):
    """Tell whether at most so many items hit the groups."""
    waiting = [(groups, most)]
    while waiting:
        rest, left = waiting.pop()
        if left < 0 or 0 in rest:
            continue
        if not rest:
            return True
        if _apart(rest) > left:
            continue
        for place in places_in(_fewest(rest)):
            bit = 1 << place
            waiting.append(([group for group in rest if not group & bit], left - 1))
            # What is hit by this item has been looked at, so the item is left out from here on.
            rest = [group & ~bit for group in rest]
    return False


def _apart(groups):
    """The number of some groups without common items; so many items are needed at least."""
    taken = 0
    count = 0
    for group in sorted(groups, key=how_many):
        if not group & taken:
            taken |= group
            count += 1
    return count
