"""What hangs together by near pairs, the least tree, and the least bounds for few parts."""

from closepoints.checks import need_number
from closepoints.near import near_pairs
from closepoints.points import all_pairs


def joined(leasts, i, j):
    """Each place's least place of its part, after the parts of i and j became one."""
    low = min(leasts[i], leasts[j])
    high = max(leasts[i], leasts[j])
    return [low if least == high else least for least in leasts]


def parts_within(points, way, bound):
    leasts = list(range(len(points)))
    for i, j in near_pairs(points, way, bound):
        if leasts[i] != leasts[j]:
            leasts = joined(leasts, i, j)
    parts = {}
    # Places come rising, so each part begins with its least place, and the parts come by these.
    for place, least in enumerate(leasts):
        parts.setdefault(least, []).append(place)
    return list(parts.values())


def least_tree(points, way):
    leasts = list(range(len(points)))
    tree = []
    for far, i, j in all_pairs(points, way):
        if leasts[i] != leasts[j]:
            leasts = joined(leasts, i, j)
            tree.append((far, i, j))
    return tree


def bound_for_all(points, way):
    # The tree comes first, for no points may still be asked by another text.
    tree = least_tree(points, way)
    if not points:
        return None
    return max([far for far, i, j in tree], default=0)


def bound_for_parts(points, way, many):
    # The tree comes first, for NoPoints and NoWay go ahead of NoNumber.
    tree = least_tree(points, way)
    need_number(many)
    if len(points) <= many:
        return 0
    # Each pair of the tree makes the parts one fewer, and no other pair does.
    return tree[len(points) - many - 1][0]
