"""What several test files use: contents of pages, and devices and stores that are watched."""

import sys

from nearvault.checker import check_pages
from nearvault.device import Device
from nearvault.errors import PowerCut
from nearvault.pager import Pager
from nearvault.store import Store

ZEROS = [0] * 256


def filled(byte):
    return [byte] * 256


def numbers(*parts):
    """Return the bytes of numbers of 4 bytes each."""
    return [byte for part in parts for byte in part.to_bytes(4, "big")]


def page_of(*parts):
    """Return a page that begins with these numbers of 4 bytes each."""
    return padded(numbers(*parts))


def padded(data):
    return data + [0] * (256 - len(data))


def head_of(pages, first_free):
    """Return the head of a pager of which only these two numbers are set."""
    return page_of(0, 0, 0, 0, 0, 0, pages, first_free)


def group_of(*pairs):
    """Return the bytes of a group of pairs, as point 7 says it."""
    return numbers(len(pairs)) + [byte for number, data in pairs for byte in numbers(number) + data]


class RecordingDevice(Device):
    """A device that tells each step that was asked of it, performed or not."""

    def __init__(self):
        super().__init__()
        self.asked = []

    def write_page(self, number, data):
        self.asked.append(("write", number, list(data)))
        super().write_page(number, data)

    def sync_pages(self):
        self.asked.append("sync pages")
        super().sync_pages()

    def append(self, data):
        for byte in data:
            self.asked.append(("append", byte))
            super().append([byte])

    def clear(self):
        self.asked.append("clear")
        super().clear()

    def sync_log(self):
        self.asked.append("sync log")
        super().sync_log()

    def take_asked(self):
        """Return the steps that were asked since the last call of this method."""
        asked = self.asked
        self.asked = []
        return asked


def appended(data):
    """Return the steps that append these bytes."""
    return [("append", byte) for byte in data]


def entry_bytes(entry):
    """Return the bytes of an entry, as point 12 says it."""
    key, begin, end, point, payload = entry
    coordinates = [byte for part in point for byte in (part + 32768).to_bytes(2, "big")]
    return numbers(key, begin, end) + coordinates + [len(payload)] + list(payload)


def leaf_of(*entries):
    """Return a leaf of the key tree, as point 13 says it."""
    return padded([1, len(entries)] + [byte for entry in entries for byte in entry_bytes(entry)])


def inner_of(*children):
    """Return an inner page of the key tree with children `(key, begin, page)`."""
    return padded([2, len(children)] + [byte for child in children for byte in numbers(*child)])


def coordinates(point):
    """Return the bytes of a point, as point 2 says it."""
    return [byte for part in point for byte in (part + 32768).to_bytes(2, "big")]


def metric_leaf_of(*items):
    """Return a leaf of the metric tree with items `(key, begin, point)`, as point 15 says it."""
    data = [3, len(items)]
    for key, begin, point in items:
        data += numbers(key, begin) + coordinates(point)
    return padded(data)


def metric_inner_of(*children):
    """Return an inner page of the metric tree with children `(pivot, radius, page)`."""
    data = [4, len(children)]
    for pivot, radius, page in children:
        data += coordinates(pivot) + numbers(radius, page)
    return padded(data)


def apart(metric, a, b):
    """Return the distance of two points, as point 3 says it."""
    differences = [abs(x - y) for x, y in zip(a, b)]
    return {"sum": sum(differences), "greatest": max(differences), "unlike": sum(map(bool, differences))}[metric]


class Preview:
    """What an opening reads and writes on a device, without touching the device."""

    def __init__(self, device):
        self.device = device
        self.pages = {}

    def page(self, number):
        return list(self.pages.get(number) or self.device.page(number))

    def log(self):
        return self.device.log()

    def write_page(self, number, data):
        self.pages[number] = list(data)

    def sync_pages(self):
        pass

    def clear(self):
        pass

    def sync_log(self):
        pass


def opened(device):
    """Return a pager with the pages of a device, which stays as it is."""
    return Pager(Preview(device))


def is_cut(method, *arguments):
    """Return whether power fell during a call."""
    try:
        method(*arguments)
    except PowerCut:
        return True
    return False


class CheckedStore:
    """A store whose pages are checked behind each call that returned or was refused."""

    def __init__(self, device, dimensions, metric):
        self.device = device
        self.checked_at = None
        self.store = Store(device, dimensions, metric)
        self.check("the opening")

    def check(self, name):
        # Without a step the device is as it was.
        if self.device.steps() == self.checked_at:
            return
        self.checked_at = self.device.steps()
        broken = check_pages(opened(self.device))
        if broken != 0:
            raise AssertionError(f"rule {broken} does not hold behind {name}")

    def __getattr__(self, name):
        method = getattr(self.store, name)

        def call(*arguments):
            try:
                return method(*arguments)
            finally:
                # A cut leaves steps pending: only the next opening is promised.
                if not isinstance(sys.exc_info()[1], PowerCut):
                    self.check(name)

        return call if callable(method) else method
