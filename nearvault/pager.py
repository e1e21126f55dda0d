"""The newest content of pages, with commits, checkpoints and rollbacks."""

from nearvault.device import PAGE_SIZE
from nearvault.log import read_groups, write_group
from nearvault.points import NUMBER_WIDTH, read_number, write_number

HEAD = 0

# The format number of a store; an empty device has another one.
FORMAT_NUMBER = 1
EMPTY_DEVICE = 0

# The eight numbers of the head, in their order.
FORMAT = 0
DIMENSIONS = 1
METRIC = 2
LAST_COMMIT = 3
KEY_ROOT = 4
METRIC_ROOT = 5
PAGE_COUNT = 6
FIRST_FREE = 7


def padded(data):
    """Return a page that begins with these bytes and continues with zeros."""
    return data + [0] * (PAGE_SIZE - len(data))


class Pager:
    """The pages of a device with the changes since the last commit."""

    def __init__(self, device):
        self._device = device
        # No list in these two is ever modified, so a commit and a checkpoint
        # may hand them on as they are.
        self._dirty = {}
        self._committed_since_checkpoint = {}
        logged = device.log()
        for group in read_groups(logged):
            for number, content in group:
                self._committed_since_checkpoint[number] = content
        if logged:
            self.checkpoint()
        self._count_the_head()

    def read(self, number):
        """Return the newest content of a page."""
        if number in self._dirty:
            return list(self._dirty[number])
        if number in self._committed_since_checkpoint:
            return list(self._committed_since_checkpoint[number])
        return self._device.page(number)

    def write(self, number, data):
        """Give a page a content of 256 bytes."""
        self._dirty[number] = list(data)

    def allocate(self):
        """Return the number of an allocated page, which is filled with zeros."""
        number = self.field(FIRST_FREE)
        if number != 0:
            self.set_field(FIRST_FREE, read_number(self.read(number), 0, NUMBER_WIDTH))
        else:
            number = self.field(PAGE_COUNT)
            self.set_field(PAGE_COUNT, number + 1)
        self.write(number, padded([]))
        return number

    def release(self, number):
        """Make a page the first free page."""
        self.write(number, padded(write_number(NUMBER_WIDTH, self.field(FIRST_FREE))))
        self.set_field(FIRST_FREE, number)

    def field(self, k):
        """Return the number k of the head."""
        return read_number(self.read(HEAD), NUMBER_WIDTH * k, NUMBER_WIDTH)

    def set_field(self, k, number):
        """Set the number k of the head."""
        place = NUMBER_WIDTH * k
        head = self.read(HEAD)
        head[place:place + NUMBER_WIDTH] = write_number(NUMBER_WIDTH, number)
        self.write(HEAD, head)

    def commit(self):
        """Write a group of all dirty pages to the log, if there are any."""
        if not self._dirty:
            return
        pairs = [(number, self._dirty[number]) for number in sorted(self._dirty)]
        self._device.append(write_group(pairs))
        self._device.sync_log()
        self._committed_since_checkpoint.update(self._dirty)
        self._dirty = {}

    def checkpoint(self):
        """Write the pages that were committed to the device, and clear the log."""
        for number in sorted(self._committed_since_checkpoint):
            self._device.write_page(number, self._committed_since_checkpoint[number])
        # The log may be lost only when the pages that it holds are durable.
        self._device.sync_pages()
        self._device.clear()
        self._device.sync_log()
        self._committed_since_checkpoint = {}

    def rollback(self):
        """Give the dirty pages the content that they had at the last commit."""
        self._dirty = {}
        self._count_the_head()

    def _count_the_head(self):
        """Let the number of pages be at least 1, as the head is a page."""
        if self.field(PAGE_COUNT) == 0:
            self.set_field(PAGE_COUNT, 1)
