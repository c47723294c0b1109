"""What the tests share: points to ask about, every function, and answers by going through all pairs."""

from closepoints.between import far_list, near_between, two_between
from closepoints.cells import cells_paper, cells_show, greatest_bound
from closepoints.far import farthest_of, farthest_two, middle, most_near, sums_place
from closepoints.near import how_many_near, most_apart, near_counts, near_pairs, so_manieth_pair
from closepoints.nearest import mutual, nearest_all, nearest_of, nearest_to, nearest_two
from closepoints.parts import bound_for_all, bound_for_parts, least_tree, parts_within
from closepoints.points import all_pairs, how_far

WAYS = ("streets", "squares")
GREAT = 10 ** 15 - 1
BEYOND = 10 ** 16 + 7

NOT_POINTS = (
    [()],
    [(1, 2, 3, 4)],
    [(1, 2, 3, 4, 5, 6, 7)],
    [(), (), ()],
    [(1, 2, 3, 4), (5, 6, 7, 8)],
    [(), (1,), (2,)],
    [(1,), (), (2,)],
    [(1,), (2,), ()],
    [(1, 2, 3, 4), (1, 2), (3, 4)],
    [(1, 2), (1, 2, 3, 4), (3, 4)],
    [(1, 2), (3, 4), (1, 2, 3, 4)],
    [(1, 2, 3), (3, 4, 5), (1, 2, 3, 4)],
    [(1,), (1, 2), (3, 4)],
    [(1, 2), (1,), (3, 4)],
    [(1, 2), (3, 4), (1,)],
    [(1, 2), (3, 4), (1, 2, 3)],
    [(1, 2, 3), (3, 4)],
)

NOT_WAYS = (
    "", " ", "street", "square", "streetss", "squaress", "sstreets", "stteets", "squeres", "treets", "quares",
    "Streets", "Squares", "STREETS", "SQUARES", "streetS", " streets", "streets ", " squares", "squares ",
    "str eets", "streets\n", "\nsquares", "tsreets", "sqaures", "streets squares", "streets,squares",
    "sqrt", "none", "0", "s", "e",
)

# Each is asked with points and a way; what stands behind these is right for two points or more.
ASKED = (
    ("how_far", lambda points, way: how_far(points, way, 0, 1)),
    ("all_pairs", lambda points, way: all_pairs(points, way)),
    ("nearest_two", lambda points, way: nearest_two(points, way)),
    ("nearest_of", lambda points, way: nearest_of(points, way, 0)),
    ("nearest_all", lambda points, way: nearest_all(points, way)),
    ("mutual", lambda points, way: mutual(points, way)),
    ("nearest_to", lambda points, way: nearest_to(points, way, (0,) * len(points[0]))),
    ("near_pairs", lambda points, way: near_pairs(points, way, 5)),
    ("how_many_near", lambda points, way: how_many_near(points, way, 5)),
    ("so_manieth_pair", lambda points, way: so_manieth_pair(points, way, 1)),
    ("near_counts", lambda points, way: near_counts(points, way, 5)),
    ("most_apart", lambda points, way: most_apart(points, way, 5)),
    ("greatest_bound", lambda points, way: greatest_bound(points, way)),
    ("two_between", lambda points, way: two_between(points[:1], points[1:], way)),
    ("near_between", lambda points, way: near_between(points[:1], points[1:], way, 5)),
    ("far_list", lambda points, way: far_list(points[:1], points[1:], way)),
    ("parts_within", lambda points, way: parts_within(points, way, 5)),
    ("least_tree", lambda points, way: least_tree(points, way)),
    ("bound_for_all", lambda points, way: bound_for_all(points, way)),
    ("bound_for_parts", lambda points, way: bound_for_parts(points, way, 1)),
    ("farthest_two", lambda points, way: farthest_two(points, way)),
    ("farthest_of", lambda points, way: farthest_of(points, way, 0)),
    ("middle", lambda points, way: middle(points, way)),
    ("sums_place", lambda points, way: sums_place(points, way)),
    ("most_near", lambda points, way: most_near(points, way, 5)),
)

# What these tell hangs on a paper, or may be that there is none, so they are asked apart from the others.
ASKED_OF_PAPERS = (
    ("cells_show", lambda points, way: cells_show(points, way, 1, (1, []))),
    ("cells_paper", lambda points, way: cells_paper(points, way, 1)),
)

# The same, with a place, a bound or a number that is refused.
ASKED_WRONGLY = (
    ("how_far, one", lambda points, way: how_far(points, way, -1, 0)),
    ("how_far, other", lambda points, way: how_far(points, way, 0, 99)),
    ("nearest_of", lambda points, way: nearest_of(points, way, 99)),
    ("near_pairs", lambda points, way: near_pairs(points, way, -1)),
    ("how_many_near", lambda points, way: how_many_near(points, way, -1)),
    ("so_manieth_pair", lambda points, way: so_manieth_pair(points, way, 0)),
    ("near_counts", lambda points, way: near_counts(points, way, -1)),
    ("most_apart", lambda points, way: most_apart(points, way, -1)),
    ("cells_show", lambda points, way: cells_show(points, way, 0, (1, []))),
    ("cells_show, no paper", lambda points, way: cells_show(points, way, -1, ())),
    ("cells_paper", lambda points, way: cells_paper(points, way, 0)),
    ("near_between", lambda points, way: near_between(points[:1], points[1:], way, -1)),
    ("parts_within", lambda points, way: parts_within(points, way, -1)),
    ("bound_for_parts", lambda points, way: bound_for_parts(points, way, 0)),
    ("farthest_of", lambda points, way: farthest_of(points, way, 99)),
    ("farthest_of, below", lambda points, way: farthest_of(points, way, -1)),
    ("most_near", lambda points, way: most_near(points, way, -1)),
)


def spread(many, count, width, seed):
    """Points that look strewn, from a fixed row of numbers; a small width makes many equally near."""
    points = []
    state = seed
    for place in range(many):
        numbers = []
        for number in range(count):
            state = (state * 6364136223846793005 + 1442695040888963407) % 2 ** 64
            numbers.append((state >> 8) % (2 * width + 1) - width)
        points.append(tuple(numbers))
    return points


def strewn():
    """Lists of points of each count of numbers, from none to many, with and without equal ones."""
    found = [[]]
    for count in (1, 2, 3):
        for many in (1, 2, 3, 7, 14, 40):
            for width in (0, 2, 30, GREAT):
                found.append(spread(many, count, width, many * 100 + count * 10 + width))
    return found


def bounds_of(fars):
    """Nought, very great ones, and about four of the fars, each with one less and one more."""
    some = [0, 10 ** 33, 10 ** 34 - 1]
    for far in fars[:: max(1, len(fars) // 4)]:
        some += [far, far + 1, max(0, far - 1)]
    return sorted(set(some))


def plain_far(way, point, other):
    total = 0
    for k in range(len(point)):
        difference = point[k] - other[k]
        total += max(difference, -difference) if way == "streets" else difference ** 2
    return total


def plain_pairs(points, way):
    return sorted(
        (plain_far(way, points[i], points[j]), i, j)
        for j in range(len(points))
        for i in range(j)
    )
