"""Tests of nearvault.checker against a plain reading of point 26, over random changes of pages."""

import random
import unittest

from nearvault.checker import check_pages
from nearvault.device import Device
from nearvault.pager import Pager
from nearvault.store import Store
from support import ZEROS, apart, opened

METRICS = ("sum", "greatest", "unlike")


class Broken(Exception):
    """A rule does not hold."""


def need(holds):
    if not holds:
        raise Broken


class Reading:
    """The rules of point 26, one by one, over a dict of pages."""

    def __init__(self, pages):
        self.pages = pages
        self.key_pages = []
        self.metric_pages = []
        self.entries = []
        self.items = []
        self.wrong_places = 0
        self.short_radii = 0

    def page(self, number):
        return self.pages.get(number, ZEROS)

    def number(self, page, place):
        return int.from_bytes(bytes(self.page(page)[place:place + 4]), "big")

    def point(self, data):
        return tuple(int.from_bytes(bytes(data[k:k + 2]), "big") - 32768 for k in range(0, 2 * self.dimensions, 2))

    def first_broken(self):
        for rule in range(1, 9):
            try:
                getattr(self, f"rule_{rule}")()
            except Broken:
                return rule
        return 0

    def rule_1(self):
        names = ("format", "dimensions", "metric", "last", "key_root", "metric_root", "end", "free")
        for k, name in enumerate(names):
            setattr(self, name, self.number(0, 4 * k))
        need(self.format == 1 and self.dimensions in range(1, 9) and self.metric in range(3))
        need(self.page(0)[32:] == ZEROS[32:])

    def rule_2(self):
        self.visit_key_page(self.key_root, (-1, -1), (2**33, 0))

    def visit_key_page(self, page, low, high):
        need(0 < page < self.end and page not in self.key_pages)
        self.key_pages.append(page)
        data = self.page(page)
        if page == self.key_root and data == ZEROS:
            return
        if data[0] == 1:
            need(data[1] > 0 or page == self.key_root)
            rest = data[2:]
            for _ in range(data[1]):
                wide = 12 + 2 * self.dimensions
                need(len(rest) > wide and rest[wide] <= 40 and len(rest) > wide + rest[wide])
                key, begin, end = (int.from_bytes(bytes(rest[k:k + 4]), "big") for k in (0, 4, 8))
                self.entries.append((key, begin, end, self.point(rest[12:wide])))
                self.wrong_places += not low <= (key, begin) < high
                rest = rest[wide + 1 + rest[wide]:]
            need(not any(rest))
            return
        need(data[0] == 2 and 1 <= data[1] <= 20 and not any(data[2 + 12 * data[1]:]))
        children = [tuple(self.number(page, 2 + 12 * k + part) for part in (0, 4, 8)) for k in range(data[1])]
        bounds = [low] + [child[:2] for child in children[1:]] + [high]
        need(all(a < b for a, b in zip(bounds[1:-1], bounds[2:-1])))
        for k, child in enumerate(children):
            self.visit_key_page(child[2], max(low, bounds[k]), min(high, bounds[k + 1]))

    def rule_3(self):
        pairs = [entry[:2] for entry in self.entries]
        need(self.wrong_places == 0 and pairs == sorted(set(pairs)))

    def rule_4(self):
        self.visit_metric_page(self.metric_root)

    def visit_metric_page(self, page):
        """Return the points below a page."""
        need(0 < page < self.end and page not in self.key_pages + self.metric_pages)
        self.metric_pages.append(page)
        data = self.page(page)
        if page == self.metric_root and data == ZEROS:
            return []
        wide = 8 + 2 * self.dimensions
        need(data[0] in (3, 4) and data[1] <= 9 and not any(data[2 + wide * data[1]:]))
        need(data[1] > 0 or (data[0] == 3 and page == self.metric_root))
        found = []
        for place in range(2, 2 + wide * data[1], wide):
            if data[0] == 3:
                found.append(self.point(data[place + 8:]))
                self.items.append((self.number(page, place), self.number(page, place + 4), found[-1]))
            else:
                pivot, radius_place = self.point(data[place:]), place + wide - 8
                points = self.visit_metric_page(self.number(page, radius_place + 4))
                radius = self.number(page, radius_place)
                self.short_radii += any(apart(METRICS[self.metric], pivot, point) > radius for point in points)
                found += points
        return found

    def rule_5(self):
        need(self.short_radii == 0)

    def rule_6(self):
        need(sorted(self.items) == sorted((key, begin, point) for key, begin, _, point in self.entries))

    def rule_7(self):
        for key, begin, end, _ in self.entries:
            need(1 <= begin <= self.last and (end == 0 or begin < end <= self.last))
            for other_key, other_begin, _, _ in self.entries:
                need(key != other_key or other_begin <= begin or 0 < end <= other_begin)

    def rule_8(self):
        free = []
        page = self.free
        while page != 0 and page not in free:
            need(not any(self.page(page)[4:]))
            free.append(page)
            page = self.number(page, 0)
        need(page == 0)
        need(sorted([0] + self.key_pages + self.metric_pages + free) == list(range(min(self.end, 10**6))))


def pages_of_a_store(dimensions, metric, seed):
    """Return the pages of a store with several versions, inner pages and free pages."""
    chance = random.Random(seed)
    device = Device()
    store = Store(device, dimensions, metric)
    for turn in range(8):
        transaction = store.begin()
        for key in chance.sample(range(50), 25):
            if chance.random() < 0.75 - turn / 20:
                point = tuple(chance.randrange(-20, 20) for _ in range(dimensions))
                store.put(transaction, key, point, (turn,) * chance.randrange(41))
            else:
                store.delete(transaction, key)
        store.commit(transaction)
        if turn in (3, 6):
            store.vacuum()
    pager = opened(device)
    pages = {number: pager.read(number) for number in range(pager.field(6))}
    assert pager.field(7) != 0
    return pages


class RandomTest(unittest.TestCase):
    def compare(self, pages, told):
        pager = Pager(Device())
        for number, content in pages.items():
            pager.write(number, content)
        found = check_pages(pager)
        self.assertEqual(found, Reading(pages).first_broken(), told)
        return found

    def changed_byte(self, chance, content):
        """Return a page with another byte, more often one of the first ones."""
        place = chance.choice((chance.randrange(256), chance.randrange(36), chance.randrange(4)))
        byte = chance.choice((0, 1, 255, content[place] + 1, content[place] - 1, chance.randrange(256)))
        return content[:place] + [byte % 256] + content[place + 1:]

    def changed(self, chance, right):
        pages = dict(right)
        for _ in range(chance.choice((1, 1, 1, 2, 3))):
            first, second = chance.sample(list(pages), 2)
            kind = chance.randrange(12)
            if kind == 0:
                pages[first], pages[second] = pages[second], pages[first]
            elif kind == 1:
                pages[first] = pages[second]
            elif kind == 2:
                pages[first] = ZEROS
            else:
                # Page 1 and page 2 are the roots.
                page = chance.choice((0, 1, 2, first, first))
                pages[page] = self.changed_byte(chance, pages[page])
        return pages

    def test_changed_pages_of_stores(self):
        found = {}
        for seed, (dimensions, metric) in enumerate(((1, "sum"), (1, "unlike"), (2, "greatest"), (8, "sum"))):
            right = pages_of_a_store(dimensions, metric, seed)
            self.assertEqual(self.compare(right, "unchanged"), 0)
            chance = random.Random(seed)
            for turn in range(500):
                rule = self.compare(self.changed(chance, right), (seed, turn))
                found[rule] = found.get(rule, 0) + 1
        self.assertEqual(sorted(found), list(range(9)))

    def test_random_bytes_in_every_page(self):
        chance = random.Random(5)
        for turn in range(300):
            end = chance.randrange(3, 30)
            head = [0, 0, 0, 1, 0, 0, 0, chance.randrange(1, 9), 0, 0, 0, chance.randrange(3), 0, 0, 0, 9]
            head += [0, 0, 0, 1, 0, 0, 0, 2, 0, 0, 0, end, 0, 0, 0, chance.randrange(end)]
            bytes_taken = chance.choice(((0, 1, 2, 3, 4), (0, 0, 0, 1, 2), range(256), (0,) * 30 + (1, 2, 3)))
            pages = {page: chance.choices(bytes_taken, k=256) for page in range(1, end)}
            for page in pages:
                if chance.randrange(3):
                    pages[page][:2] = [chance.choice((1, 2, 3, 4)), chance.randrange(5)]
                if chance.randrange(2):
                    pages[page][40:] = ZEROS[40:]
            pages[0] = (head + ZEROS)[:256] if chance.randrange(9) else chance.choices(range(256), k=256)
            self.compare(pages, turn)

    def test_random_bytes_alone(self):
        for seed in range(200):
            chance = random.Random(seed)
            self.compare({page: chance.choices(range(256), k=256) for page in range(10)}, seed)


if __name__ == "__main__":
    unittest.main()
