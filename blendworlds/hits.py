"""Sets of numbers that have a member in each of some groups.

A group is told by its mark, the sum of 1 << member over its members.
"""

from itertools import combinations


def mark_of(members):
    """The mark of the group of these numbers."""
    return sum([1 << member for member in members])


def chosen_of(members, many):
    """The ascending list of all sets of so many of members, an ascending list."""
    return list(combinations(members, many))


def places_unlike(one, other):
    """The tuple of the places at which two rows of one length are not alike."""
    return tuple([place for place, (low, high) in enumerate(zip(one, other)) if low != high])


def marks_unlike(row, rows):
    """The ascending list of the marks of the places at which each of rows is not like the row."""
    return sorted(set([mark_of(places_unlike(row, other)) for other in rows]))


def has_all(mark, groups):
    """Whether the set of this mark has a member in each of the groups."""
    return all([mark & group for group in groups])


def smallest_hit(members, groups):
    """The least of the smallest sets of some of members that have one in each group; None if there is none."""
    for many in range(len(members) + 1):
        for chosen in combinations(list(members), many):
            if has_all(mark_of(chosen), groups):
                return chosen
    return None


def barest_hits(members, groups):
    """The ascending list of the sets of some of members that have one in each group, and not without any one."""
    found, marks = [], []
    for many in range(len(members) + 1):
        for chosen in combinations(list(members), many):
            mark = mark_of(chosen)
            if has_all(mark, groups) and not any([mark & less == less for less in marks]):
                found.append(chosen)
                marks.append(mark)
    return sorted(found)


def fewest_of(sets):
    """The least of the smallest of one or more sets."""
    _, least = min([(len(chosen), chosen) for chosen in sets])
    return least
