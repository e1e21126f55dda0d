"""What several test files use: contents of pages, and a device that tells its steps."""

from nearvault.device import Device

ZEROS = [0] * 256


def filled(byte):
    return [byte] * 256


def numbers(*parts):
    """Return the bytes of numbers of 4 bytes each."""
    return [byte for part in parts for byte in part.to_bytes(4, "big")]


def page_of(*parts):
    """Return a page that begins with these numbers of 4 bytes each."""
    return padded(numbers(*parts))


def padded(data):
    return data + [0] * (256 - len(data))


def head_of(pages, first_free):
    """Return the head of a pager of which only these two numbers are set."""
    return page_of(0, 0, 0, 0, 0, 0, pages, first_free)


def group_of(*pairs):
    """Return the bytes of a group of pairs, as point 7 says it."""
    return numbers(len(pairs)) + [byte for number, data in pairs for byte in numbers(number) + data]


class RecordingDevice(Device):
    """A device that tells each step that was asked of it, performed or not."""

    def __init__(self):
        super().__init__()
        self.asked = []

    def write_page(self, number, data):
        self.asked.append(("write", number, list(data)))
        super().write_page(number, data)

    def sync_pages(self):
        self.asked.append("sync pages")
        super().sync_pages()

    def append(self, data):
        for byte in data:
            self.asked.append(("append", byte))
            super().append([byte])

    def clear(self):
        self.asked.append("clear")
        super().clear()

    def sync_log(self):
        self.asked.append("sync log")
        super().sync_log()

    def take_asked(self):
        """Return the steps that were asked since the last call of this method."""
        asked = self.asked
        self.asked = []
        return asked


def appended(data):
    """Return the steps that append these bytes."""
    return [("append", byte) for byte in data]


def entry_bytes(entry):
    """Return the bytes of an entry, as point 12 says it."""
    key, begin, end, point, payload = entry
    coordinates = [byte for part in point for byte in (part + 32768).to_bytes(2, "big")]
    return numbers(key, begin, end) + coordinates + [len(payload)] + list(payload)


def leaf_of(*entries):
    """Return a leaf of the key tree, as point 13 says it."""
    return padded([1, len(entries)] + [byte for entry in entries for byte in entry_bytes(entry)])


def inner_of(*children):
    """Return an inner page of the key tree with children `(key, begin, page)`."""
    return padded([2, len(children)] + [byte for child in children for byte in numbers(*child)])
