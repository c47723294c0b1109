"""Points that come and go, each under a name of its own."""

from closepoints.checks import need_as_many_numbers, need_count, need_way
from closepoints.errors import NoPlace
from closepoints.near import near_pairs
from closepoints.nearest import nearest_of, nearest_two


class Kept:
    def __init__(self, way, count):
        need_count(count)
        need_way(way)
        self.way = way
        self.count = count
        self.points_by_name = {}
        self.ever_put = 0

    def put(self, point):
        need_as_many_numbers(point, self.count)
        name = self.ever_put
        self.points_by_name[name] = point
        self.ever_put = name + 1
        return name

    def take(self, name):
        self.need_name(name)
        self.points_by_name.pop(name)

    def names(self):
        return sorted(self.points_by_name)

    def point(self, name):
        self.need_name(name)
        return self.points_by_name[name]

    def two(self):
        found = nearest_two(self.plain_points(), self.way)
        if found is None:
            return None
        names = self.names()
        return (found[0], names[found[1]], names[found[2]])

    def nearest(self, name):
        self.need_name(name)
        names = self.names()
        found = nearest_of(self.plain_points(), self.way, names.index(name))
        if found is None:
            return None
        return (found[0], names[found[1]])

    def near(self, bound):
        names = self.names()
        return [(names[i], names[j]) for i, j in near_pairs(self.plain_points(), self.way, bound)]

    def need_name(self, name):
        if name not in self.points_by_name:
            raise NoPlace("there is no such name")

    def plain_points(self):
        return [self.points_by_name[name] for name in self.names()]
