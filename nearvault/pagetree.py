"""What the key tree and the metric tree have in common: pages below a root."""

from nearvault.pager import padded

# A page begins with its kind and the number of its items, a byte each.
PAGE_START = 2

# In both trees a child is a tuple with its page in this place.
CHILD_PAGE = 2


def page_with(kind, written_items):
    """Return the 256 bytes of a page with these items, each told by its bytes."""
    data = [kind, len(written_items)]
    for item in written_items:
        data.extend(item)
    return padded(data)


class PageTree:
    """The pages below a root; all that a tree knows stands in pages.

    A tree that is derived from it says how children are read and items written.
    """

    def __init__(self, pager, root, dimensions, leaf, inner):
        self._pager = pager
        self._root = root
        self._dimensions = dimensions
        self._leaf = leaf
        self._inner = inner

    def _children_of(self, page):
        """Return the children of a page; a leaf has none."""
        raise NotImplementedError()

    def _write(self, page, kind, items):
        """Write these items to a page."""
        raise NotImplementedError()

    def _write_left_items(self, path, items):
        """Write the items that a deletion left in the leaf at the end of a path."""
        place = len(path) - 1
        kind = self._leaf
        while place > 0 and not items:
            self._pager.release(path[place])
            children = self._children_of(path[place - 1])
            items = [child for child in children if child[CHILD_PAGE] != path[place]]
            kind = self._inner
            place -= 1
        if not items:
            kind = self._leaf
        self._write(path[place], kind, items)
        self._take_over_only_children()

    def _take_over_only_children(self):
        """Give an inner root with one child the content of that child."""
        children = self._children_of(self._root)
        while len(children) == 1:
            page = children[0][CHILD_PAGE]
            self._pager.write(self._root, self._pager.read(page))
            self._pager.release(page)
            children = self._children_of(self._root)

    def _pages_from_root(self):
        """Return the numbers of the tree's pages, depth first."""
        found = []
        # A metric tree of equal points is deeper than calls may be nested.
        waiting = [self._root]
        while waiting:
            page = waiting.pop()
            found.append(page)
            for child in reversed(self._children_of(page)):
                waiting.append(child[CHILD_PAGE])
        return found
