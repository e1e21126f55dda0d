"""The metric tree: items found by the distances of their points, in pages."""

from heapq import heappop, heappush

from nearvault.pagetree import CHILD_PAGE, PAGE_START, PageTree, page_with
from nearvault.points import COORDINATE_WIDTH, NUMBER_WIDTH, distance
from nearvault.points import read_number, read_point, write_number, write_point

METRIC_LEAF = 3
METRIC_INNER = 4
MOST_ITEMS = 9

# An item is a tuple of a key, a begin and a point, a child one of a pivot, a
# radius and a page. So both have the same width: a point and two numbers.
ITEM_POINT = 2
PIVOT = 0
RADIUS = 1

# The rows in the queue of a search. A page comes before an item with the same
# distance, as it may hold an item that is as near and has a lesser key.
PAGE_ROW = 0
ITEM_ROW = 1


def write_item(kind, item):
    """Return the bytes of an item or of a child."""
    if kind == METRIC_INNER:
        pivot, radius, page = item
        return write_point(pivot) + write_number(NUMBER_WIDTH, radius) + write_number(NUMBER_WIDTH, page)
    key, begin, point = item
    return write_number(NUMBER_WIDTH, key) + write_number(NUMBER_WIDTH, begin) + write_point(point)


def item_places(data, dimensions):
    """Return where the items or the children of a page begin, and where the last one ends."""
    width = 2 * NUMBER_WIDTH + COORDINATE_WIDTH * dimensions
    return [PAGE_START + width * k for k in range(data[1] + 1)]


def read_items(data, dimensions):
    """Return the items of a leaf; a page with only zeros has none."""
    items = []
    for place in item_places(data, dimensions)[:-1]:
        key = read_number(data, place, NUMBER_WIDTH)
        begin = read_number(data, place + NUMBER_WIDTH, NUMBER_WIDTH)
        items.append((key, begin, read_point(data, place + 2 * NUMBER_WIDTH, dimensions)))
    return items


def read_pivots(data, dimensions):
    """Return the children of an inner page."""
    children = []
    for place in item_places(data, dimensions)[:-1]:
        radius_place = place + COORDINATE_WIDTH * dimensions
        radius = read_number(data, radius_place, NUMBER_WIDTH)
        page = read_number(data, radius_place + NUMBER_WIDTH, NUMBER_WIDTH)
        children.append((read_point(data, place, dimensions), radius, page))
    return children


def points_of(kind, items):
    """Return the points of items, or the pivots of children."""
    if kind == METRIC_INNER:
        return [child[PIVOT] for child in items]
    return [item[ITEM_POINT] for item in items]


def farthest_pair(metric, points):
    """Return the places of the two points with the greatest distance, of several the first ones."""
    pairs = [(a, b) for a in range(len(points)) for b in range(a + 1, len(points))]
    return max(pairs, key=lambda pair: distance(metric, points[pair[0]], points[pair[1]]))


def halves(metric, kind, items):
    """Return the two halves of a page that is split, each a pair of its pivot and its items."""
    points = points_of(kind, items)
    first_place, second_place = farthest_pair(metric, points)
    first_pivot = points[first_place]
    second_pivot = points[second_place]
    first_half = []
    second_half = []
    for k, item in enumerate(items):
        nearer_to_second = distance(metric, second_pivot, points[k]) < distance(metric, first_pivot, points[k])
        # If all points are equal, no item is nearer to the second pivot.
        if nearer_to_second or k == second_place:
            second_half.append(item)
        else:
            first_half.append(item)
    return [(first_pivot, first_half), (second_pivot, second_half)]


def radius_around(metric, pivot, kind, items):
    """Return the least radius around a pivot for these items or children."""
    if kind == METRIC_INNER:
        return max([distance(metric, pivot, child[PIVOT]) + child[RADIUS] for child in items])
    return max([distance(metric, pivot, item[ITEM_POINT]) for item in items])


class MetricTree(PageTree):
    """The items below a root page."""

    def __init__(self, pager, root, dimensions, metric):
        PageTree.__init__(self, pager, root, dimensions, METRIC_LEAF, METRIC_INNER)
        self._metric = metric

    def insert(self, item):
        """Insert an item that is not there."""
        path = self._path_with_grown_radii(item[ITEM_POINT])
        page = path.pop()
        kind = METRIC_LEAF
        items = read_items(self._pager.read(page), self._dimensions) + [item]
        while path and len(items) > MOST_ITEMS:
            two = self._split(kind, items, page, self._pager.allocate())
            parent = path.pop()
            children = self._children_of(parent)
            place = [child[CHILD_PAGE] for child in children].index(page)
            items = children[:place] + two + children[place + 1:]
            page = parent
            kind = METRIC_INNER
        if len(items) > MOST_ITEMS:
            second_page = self._pager.allocate()
            items = self._split(kind, items, self._pager.allocate(), second_page)
            kind = METRIC_INNER
        self._write(page, kind, items)

    def delete(self, item):
        """Delete an item that is there."""
        path = self._path_to(item)
        if path:
            items = read_items(self._pager.read(path[-1]), self._dimensions)
            items.remove(item)
            self._write_left_items(path, items)

    def nearest(self, point, count, accepts):
        """Return the first of the accepted items by their distance to a point, key and begin."""
        queue = [(0, PAGE_ROW, self._root)]
        found = []
        while queue and len(found) < count:
            apart, kind, what = heappop(queue)
            if kind == PAGE_ROW:
                for row in self._rows_of(what, point):
                    heappush(queue, row)
            elif accepts(what[0], what[1]):
                found.append((apart,) + what)
        return found

    def all_items(self):
        """Return all items, ascending."""
        items = []
        for page in self.pages():
            data = self._pager.read(page)
            if data[0] != METRIC_INNER:
                items.extend(read_items(data, self._dimensions))
        return sorted(items)

    def pages(self):
        """Return the numbers of the tree's pages, depth first."""
        return self._pages_from_root()

    def _children_of(self, page):
        """Return the children of a page; a leaf has none."""
        data = self._pager.read(page)
        if data[0] != METRIC_INNER:
            return []
        return read_pivots(data, self._dimensions)

    def _write(self, page, kind, items):
        """Write these items to a page."""
        self._pager.write(page, page_with(kind, [write_item(kind, item) for item in items]))

    def _path_with_grown_radii(self, point):
        """Return the pages from the root to the leaf for a point; the radii on it grow."""
        path = [self._root]
        children = self._children_of(self._root)
        while children:
            distances = [distance(self._metric, child[PIVOT], point) for child in children]
            place = distances.index(min(distances))
            pivot, radius, page = children[place]
            if radius < distances[place]:
                children[place] = (pivot, distances[place], page)
                self._write(path[-1], METRIC_INNER, children)
            path.append(page)
            children = self._children_of(page)
        return path

    def _split(self, kind, items, first_page, second_page):
        """Write the two halves of a page, and return them as children."""
        two = []
        for page, (pivot, half) in zip((first_page, second_page), halves(self._metric, kind, items)):
            self._write(page, kind, half)
            two.append((pivot, radius_around(self._metric, pivot, kind, half), page))
        return two

    def _path_to(self, item):
        """Return the pages from the root to the leaf with an item, none if it is not there."""
        path = []
        # Pages with the number of pages above them; the last one is visited next.
        waiting = [(self._root, 0)]
        while waiting:
            page, depth = waiting.pop()
            path = path[:depth] + [page]
            data = self._pager.read(page)
            if data[0] == METRIC_INNER:
                for pivot, radius, child in reversed(read_pivots(data, self._dimensions)):
                    if radius >= distance(self._metric, pivot, item[ITEM_POINT]):
                        waiting.append((child, depth + 1))
            elif item in read_items(data, self._dimensions):
                return path
        return []

    def _rows_of(self, page, point):
        """Return the rows of a search for the items or the children of a page."""
        data = self._pager.read(page)
        if data[0] != METRIC_INNER:
            items = read_items(data, self._dimensions)
            return [(distance(self._metric, item[ITEM_POINT], point), ITEM_ROW, item) for item in items]
        # No item below a child is nearer than this, as its radius reaches each of them.
        return [
            (distance(self._metric, pivot, point) - radius, PAGE_ROW, child)
            for pivot, radius, child in read_pivots(data, self._dimensions)
        ]
