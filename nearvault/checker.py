"""The checker: whether the pages of a store are right, whatever they contain."""

from nearvault.device import PAGE_SIZE
from nearvault.keytree import INNER, LEAF, MOST_CHILDREN, MOST_PAYLOAD, THREE_NUMBERS
from nearvault.keytree import child_for, pair_of, read_children, read_entries
from nearvault.metrictree import ITEM_POINT, METRIC_INNER, METRIC_LEAF, MOST_ITEMS
from nearvault.metrictree import item_places, read_items, read_pivots
from nearvault.pager import DIMENSIONS, FIRST_FREE, FORMAT, FORMAT_NUMBER, HEAD
from nearvault.pager import KEY_ROOT, LAST_COMMIT, METRIC, METRIC_ROOT, PAGE_COUNT
from nearvault.pagetree import CHILD_PAGE, PAGE_START
from nearvault.points import COORDINATE_WIDTH, METRICS, NUMBER_WIDTH, distance, read_number

MOST_DIMENSIONS = 8

# Where the eight numbers of the head end.
HEAD_END = 32


def check_pages(pager):
    """Return the number of the first rule that fails, or 0."""
    if not is_head_right(pager):
        return 1
    key_tree = walk(pager, pager.field(KEY_ROOT), key_page_content, [])
    if key_tree is None:
        return 2
    key_pages, key_leaves = key_tree
    if not are_entries_in_their_places(key_leaves):
        return 3
    metric_tree = walk(pager, pager.field(METRIC_ROOT), metric_page_content, key_pages)
    if metric_tree is None:
        return 4
    metric_pages, metric_leaves = metric_tree
    if not do_radii_reach(METRICS[pager.field(METRIC)], metric_leaves):
        return 5
    entries = items_of(key_leaves)
    if sorted(items_of(metric_leaves)) != sorted([(key, begin, point) for key, begin, _, point, _ in entries]):
        return 6
    if not are_versions_right(entries, pager.field(LAST_COMMIT)):
        return 7
    if not are_other_pages_free(pager, key_pages + metric_pages):
        return 8
    return 0


def is_head_right(pager):
    """Return whether the numbers of the head that tell the kind of the store are right."""
    has_format = pager.field(FORMAT) == FORMAT_NUMBER
    has_shape = 1 <= pager.field(DIMENSIONS) <= MOST_DIMENSIONS and pager.field(METRIC) < len(METRICS)
    return has_format and has_shape and not any(pager.read(HEAD)[HEAD_END:])


def walk(pager, root, content_of, taken):
    """Return the pages of a tree and its leaves, or None if its pages have a wrong form.

    A leaf is a pair of its items and the way to it: for each inner page from the
    root on, a pair of the page's children and the place of the child that was taken.
    """
    dimensions = pager.field(DIMENSIONS)
    end = pager.field(PAGE_COUNT)
    met = {page: True for page in taken}
    pages = []
    leaves = []
    # A tree of any content may be deeper than calls may be nested.
    waiting = [(root, [])]
    while waiting:
        page, way = waiting.pop()
        if page in met or not 1 <= page < end:
            return None
        met[page] = True
        pages.append(page)
        content = content_of(pager.read(page), dimensions, page == root)
        if content is None:
            return None
        items, children = content
        if not children:
            leaves.append((items, way))
        for place in reversed(range(len(children))):
            waiting.append((children[place][CHILD_PAGE], way + [(children, place)]))
    return (pages, leaves)


def key_page_content(data, dimensions, is_root):
    """Return the entries and the children of a page of the key tree, or None if its form is wrong."""
    if is_root and not any(data):
        return ([], [])
    kind, many = data[:PAGE_START]
    if kind == LEAF and (many > 0 or is_root):
        end = entries_end(data, dimensions)
        if end is not None and not any(data[end:]):
            return (read_entries(data, dimensions), [])
    if kind == INNER and 1 <= many <= MOST_CHILDREN and not any(data[PAGE_START + THREE_NUMBERS * many:]):
        children = read_children(data)
        if do_ascend([pair_of(child) for child in children[1:]]):
            return ([], children)
    return None


def entries_end(data, dimensions):
    """Return where the entries of a leaf end, or None if they are not right."""
    place = PAGE_START
    for _ in range(data[1]):
        payload_place = place + THREE_NUMBERS + COORDINATE_WIDTH * dimensions + 1
        if payload_place > PAGE_SIZE or data[payload_place - 1] > MOST_PAYLOAD:
            return None
        place = payload_place + data[payload_place - 1]
    return place if place <= PAGE_SIZE else None


def metric_page_content(data, dimensions, is_root):
    """Return the items and the children of a page of the metric tree, or None if its form is wrong."""
    if is_root and not any(data):
        return ([], [])
    kind, many = data[:PAGE_START]
    if many > MOST_ITEMS or any(data[item_places(data, dimensions)[-1]:]):
        return None
    if kind == METRIC_LEAF and (many > 0 or is_root):
        return (read_items(data, dimensions), [])
    if kind == METRIC_INNER and many > 0:
        return ([], read_pivots(data, dimensions))
    return None


def do_ascend(pairs):
    """Return whether each pair is greater than the one before it."""
    return all([pairs[k] < pairs[k + 1] for k in range(len(pairs) - 1)])


def items_of(leaves):
    """Return the items of all leaves, from the first leaf to the last one."""
    return [item for items, _ in leaves for item in items]


def are_entries_in_their_places(leaves):
    """Return whether the entries ascend and each belongs to its leaf."""
    for entries, way in leaves:
        for entry in entries:
            for children, place in way:
                if child_for(children, pair_of(entry)) != children[place]:
                    return False
    return do_ascend([pair_of(entry) for entry in items_of(leaves)])


def do_radii_reach(metric, leaves):
    """Return whether the radius of each child reaches all items below it."""
    for items, way in leaves:
        for children, place in way:
            pivot, radius, _ = children[place]
            if any([distance(metric, pivot, item[ITEM_POINT]) > radius for item in items]):
                return False
    return True


def are_versions_right(entries, last_commit):
    """Return whether the begins and ends of entries that ascend fit together."""
    for _, begin, end, _, _ in entries:
        if not 1 <= begin <= last_commit:
            return False
        if end != 0 and not begin < end <= last_commit:
            return False
    for k in range(len(entries) - 1):
        key, _, end, _, _ = entries[k]
        next_key, next_begin = pair_of(entries[k + 1])
        if key == next_key and not 1 <= end <= next_begin:
            return False
    return True


def are_other_pages_free(pager, used):
    """Return whether all pages but the head and the used ones are free, each once."""
    end = pager.field(PAGE_COUNT)
    met = {page: True for page in [HEAD] + used}
    page = pager.field(FIRST_FREE)
    while page != 0:
        data = pager.read(page)
        if page in met or page >= end or any(data[NUMBER_WIDTH:]):
            return False
        met[page] = True
        page = read_number(data, 0, NUMBER_WIDTH)
    return len(met) == end
