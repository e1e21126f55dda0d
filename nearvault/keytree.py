"""The key tree: entries in the order of their keys and begins, in pages."""

from nearvault.device import PAGE_SIZE
from nearvault.pagetree import CHILD_PAGE, PAGE_START, PageTree, page_with
from nearvault.points import COORDINATE_WIDTH, NUMBER_WIDTH, read_number, read_point, write_number, write_point

LEAF = 1
INNER = 2

MOST_CHILDREN = 20
MOST_PAYLOAD = 40

# An entry begins with three numbers, and a child consists of three: its pair
# and its page. So the items of both kinds of page have their pair in front.
THREE_NUMBERS = 12


def pair_of(item):
    """Return the pair of an entry or of a child."""
    return (item[0], item[1])


def write_numbers(numbers):
    """Return the bytes of several numbers."""
    data = []
    for number in numbers:
        data.extend(write_number(NUMBER_WIDTH, number))
    return data


def read_three_numbers(data, place):
    """Return the three numbers from a place on."""
    places = range(place, place + THREE_NUMBERS, NUMBER_WIDTH)
    return tuple([read_number(data, at, NUMBER_WIDTH) for at in places])


def write_entry(entry):
    """Return the bytes of an entry."""
    key, begin, end, point, payload = entry
    return write_numbers((key, begin, end)) + write_point(point) + [len(payload)] + list(payload)


def read_entries(data, dimensions):
    """Return the entries of a leaf; a page with only zeros has none."""
    entries = []
    place = PAGE_START
    for _ in range(data[1]):
        key, begin, end = read_three_numbers(data, place)
        point = read_point(data, place + THREE_NUMBERS, dimensions)
        payload_place = place + THREE_NUMBERS + COORDINATE_WIDTH * dimensions + 1
        place = payload_place + data[payload_place - 1]
        entries.append((key, begin, end, point, tuple(data[payload_place:place])))
    return entries


def read_children(data):
    """Return the children of an inner page."""
    places = [PAGE_START + THREE_NUMBERS * k for k in range(data[1])]
    return [read_three_numbers(data, place) for place in places]


def write_items(kind, items):
    """Return the bytes of each item of a page."""
    if kind == INNER:
        return [write_numbers(child) for child in items]
    return [write_entry(entry) for entry in items]


def must_split(kind, items):
    """Return whether a page must not have all of these items."""
    if kind == INNER and len(items) > MOST_CHILDREN:
        return True
    return PAGE_START + sum([len(item) for item in write_items(kind, items)]) > PAGE_SIZE


def first_part_length(kind, items):
    """Return how many items the first part of a page that is split has."""
    sizes = [len(item) for item in write_items(kind, items)]
    # Within the bounds of the program the first item is always less than half.
    many = 1
    size = sizes[0]
    while 2 * (size + sizes[many]) <= sum(sizes):
        size += sizes[many]
        many += 1
    return many


def child_for(children, pair):
    """Return the child below which an entry with this pair belongs."""
    chosen = children[0]
    for child in children[1:]:
        if pair_of(child) <= pair:
            chosen = child
    return chosen


def children_between(children, low, high):
    """Return the children below which keys from low to high may stand."""
    found = []
    for k, child in enumerate(children):
        all_below_low = k + 1 < len(children) and pair_of(children[k + 1]) <= (low, 0)
        all_above_high = k > 0 and child[0] > high
        if not all_below_low and not all_above_high:
            found.append(child)
    return found


def with_next_child(children, page, added):
    """Return the children with another one behind the child with this page."""
    # The pair of the first child may be greater than that of the added one,
    # so the page tells the place, not the pair.
    place = [child[CHILD_PAGE] for child in children].index(page) + 1
    return children[:place] + [added] + children[place:]


class KeyTree(PageTree):
    """The entries below a root page."""

    def __init__(self, pager, root, dimensions):
        PageTree.__init__(self, pager, root, dimensions, LEAF, INNER)

    def insert(self, entry):
        """Insert an entry that is not there."""
        path = self._path(pair_of(entry))
        page = path.pop()
        kind = LEAF
        items = sorted(self._entries_of(page) + [entry], key=pair_of)
        while path and must_split(kind, items):
            added = self._split(page, kind, items)
            parent = path.pop()
            items = with_next_child(self._children_of(parent), page, added)
            page = parent
            kind = INNER
        if must_split(kind, items):
            items = self._split_root(kind, items)
            kind = INNER
        self._write(page, kind, items)

    def replace(self, key, begin, end):
        """Change the end of an entry that is there."""
        page = self._path((key, begin))[-1]
        entries = []
        for entry in self._entries_of(page):
            if pair_of(entry) == (key, begin):
                entries.append((key, begin, end) + entry[3:])
            else:
                entries.append(entry)
        self._write(page, LEAF, entries)

    def delete(self, key, begin):
        """Delete an entry that is there."""
        path = self._path((key, begin))
        entries = self._entries_of(path[-1])
        self._write_left_items(path, [entry for entry in entries if pair_of(entry) != (key, begin)])

    def entries(self, low, high):
        """Return the entries with keys from low to high, in order."""
        return self._entries_below(self._root, low, high)

    def pages(self):
        """Return the numbers of the tree's pages, depth first."""
        return self._pages_from_root()

    def _path(self, pair):
        """Return the pages from the root to the leaf of an entry with this pair."""
        path = [self._root]
        children = self._children_of(self._root)
        while children:
            path.append(child_for(children, pair)[CHILD_PAGE])
            children = self._children_of(path[-1])
        return path

    def _entries_of(self, page):
        """Return the entries of a leaf by its page."""
        return read_entries(self._pager.read(page), self._dimensions)

    def _children_of(self, page):
        """Return the children of a page; a leaf has none."""
        data = self._pager.read(page)
        if data[0] != INNER:
            return []
        return read_children(data)

    def _write(self, page, kind, items):
        """Write these items to a page."""
        self._pager.write(page, page_with(kind, write_items(kind, items)))

    def _write_to_new_page(self, kind, items):
        """Write these items to a new page, and return it as a child."""
        page = self._pager.allocate()
        self._write(page, kind, items)
        key, begin = pair_of(items[0])
        return (key, begin, page)

    def _split(self, page, kind, items):
        """Leave the first part at its page, and return the second as a child."""
        many = first_part_length(kind, items)
        self._write(page, kind, items[:many])
        return self._write_to_new_page(kind, items[many:])

    def _split_root(self, kind, items):
        """Return the two children of a root that is split."""
        many = first_part_length(kind, items)
        second = self._write_to_new_page(kind, items[many:])
        first = self._write_to_new_page(kind, items[:many])
        return [first, second]

    def _entries_below(self, page, low, high):
        """Return the entries of a range below a page and in it."""
        data = self._pager.read(page)
        if data[0] != INNER:
            entries = read_entries(data, self._dimensions)
            return [entry for entry in entries if low <= entry[0] <= high]
        found = []
        for child in children_between(read_children(data), low, high):
            found.extend(self._entries_below(child[CHILD_PAGE], low, high))
        return found
