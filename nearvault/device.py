"""A device with pages and a log that may lose power at any step."""

from nearvault.errors import PowerCut

PAGE_SIZE = 256
HALF_PAGE = 128

# What becomes of a pending page write in a crash; any other fate loses it.
TAKES_EFFECT = 1
FIRST_HALF_TAKES_EFFECT = 2


def log_after(log, log_steps):
    """Return a new log: what these log steps make of a log."""
    after = list(log)
    for step in log_steps:
        if step is None:
            after = []
        else:
            after.append(step)
    return after


class Device:
    """Pages and a log, both with pending steps that only syncing makes durable."""

    def __init__(self):
        self._durable_pages = {}
        self._page_writes = []
        self._durable_log = []
        # A log step is the byte that it appends, or None if it clears the log.
        self._log_steps = []
        self._steps_performed = 0
        self._steps_allowed = None

    def write_page(self, number, data):
        """Write the 256 bytes of a page; the write is pending."""
        self._take_step()
        self._page_writes.append((number, list(data)))

    def sync_pages(self):
        """Make all pending page writes durable."""
        self._take_step()
        for number, data in self._page_writes:
            self._durable_pages[number] = data
        self._page_writes = []

    def append(self, data):
        """Append bytes to the log, each in a pending step of its own."""
        for byte in data:
            self._take_step()
            self._log_steps.append(byte)

    def clear(self):
        """Clear the log; the clearing is pending."""
        self._take_step()
        self._log_steps.append(None)

    def sync_log(self):
        """Make all pending log steps durable."""
        self._take_step()
        self._end_log_steps(self._log_steps)

    def page(self, number):
        """Return the content of a page after all pending page writes."""
        for written, data in reversed(self._page_writes):
            if written == number:
                return list(data)
        return self._durable_page(number)

    def log(self):
        """Return the content of the log after all pending log steps."""
        return log_after(self._durable_log, self._log_steps)

    def limit(self, steps):
        """Limit power to so many further steps, or end the limit with None."""
        self._steps_allowed = steps

    def crash(self, fates, kept):
        """Let pending steps take effect or be lost, and end the limit of power."""
        for (number, data), fate in zip(self._page_writes, fates):
            self._end_page_write(number, data, fate)
        self._page_writes = []
        self._end_log_steps(self._log_steps[:max(kept, 0)])
        self._steps_allowed = None

    def steps(self):
        """Return the number of steps that were performed so far."""
        return self._steps_performed

    def pending(self):
        """Return the numbers of pending page writes and of pending log steps."""
        return (len(self._page_writes), len(self._log_steps))

    def _take_step(self):
        """Count one step, or raise PowerCut if it exceeds the limit."""
        if self._steps_allowed is not None:
            if self._steps_allowed <= 0:
                raise PowerCut()
            self._steps_allowed -= 1
        self._steps_performed += 1

    def _durable_page(self, number):
        """Return the content of a page without the pending page writes."""
        if number in self._durable_pages:
            return list(self._durable_pages[number])
        return [0] * PAGE_SIZE

    def _end_page_write(self, number, data, fate):
        """Let a pending page write have its fate in a crash."""
        if fate == TAKES_EFFECT:
            self._durable_pages[number] = data
        elif fate == FIRST_HALF_TAKES_EFFECT:
            second_half = self._durable_page(number)[HALF_PAGE:]
            self._durable_pages[number] = data[:HALF_PAGE] + second_half

    def _end_log_steps(self, log_steps):
        """Let these of the pending log steps take effect, and lose the others."""
        if None in log_steps:
            self._durable_log = log_after(self._durable_log, log_steps)
        else:
            # Nothing but bytes: the log may be too long to be copied at each syncing.
            self._durable_log.extend(log_steps)
        self._log_steps = []
