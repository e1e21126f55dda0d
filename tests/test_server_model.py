"""Tests of nearvault.server against the model of a store: any requests of several sessions."""

import random
import unittest

from nearvault.device import Device
from nearvault.server import Server
from support import CheckedStore, coordinates, numbers
from test_store_model import Model

GREATEST = 2**32 - 1


def written(record):
    key, point, payload = record
    return numbers(key) + coordinates(point) + [len(payload)] + list(payload)


class ServerModelTest(unittest.TestCase):
    def begin(self, dimensions, metric, seed):
        self.chance = random.Random(seed)
        self.dimensions = dimensions
        self.device = Device()
        self.server = Server(CheckedStore(self.device, dimensions, metric))
        self.model = Model(metric)
        self.transactions = {self.server.start(): None for _ in range(3)}

    def any_point(self):
        return tuple(self.chance.choice((0, 1, 2, -300, 32767, -32768)) for _ in range(self.dimensions))

    def any_request(self):
        """Return a request as a tuple of its code and fields."""
        code = self.chance.choice((1, 1, 2, 2, 2, 2, 3, 3, 4, 5, 6, 7, 7, 8, 9, 10))
        key, low, high = (self.chance.choice((0, 1, 2, 3, 700, GREATEST)) for _ in range(3))
        payload = tuple(self.chance.choices(range(256), k=self.chance.choice((0, 1, 40))))
        fields = {
            2: (key, self.any_point(), payload), 3: (key,), 4: (key,), 5: (low, high),
            6: (self.any_point(), self.chance.choice((1, 2, 255)), low, high),
        }
        return (code,) + fields.get(code, ())

    def body_of(self, request):
        code, fields = request[0], request[1:]
        if code == 2:
            return [2] + numbers(fields[0]) + coordinates(fields[1]) + list(fields[2])
        if code == 6:
            return [6] + coordinates(fields[0]) + [fields[1]] + numbers(*fields[2:])
        return [code] + numbers(*fields)

    def expected(self, session, request):
        """Return the body of the response to a well formed request."""
        code, fields = request[0], request[1:]
        transaction = self.transactions[session]
        if code == 9:
            return [0] + numbers(self.model.vacuum())
        if code == 10:
            return [0]
        if code == 1:
            if transaction is not None:
                return [3]
            self.transactions[session] = self.model.begin()
            return [0] + numbers(self.model.last)
        if transaction is None:
            return [2]
        return self.expected_within(session, transaction, code, fields)

    def expected_within(self, session, transaction, code, fields):
        if code in (2, 3):
            self.model.open[transaction][1][fields[0]] = fields if code == 2 else None
            return [0]
        if code == 4:
            record = self.model.records(transaction).get(fields[0])
            return [0] + (written(record) if record else [])
        if code == 5:
            return [0] + [byte for record in self.model.between(transaction, *fields) for byte in written(record)]
        if code == 6:
            rows = self.model.nearest(transaction, *fields)
            return [0] + [byte for row in rows for byte in numbers(row[0]) + written(row[1:])]
        self.transactions[session] = None
        if code == 8:
            del self.model.open[transaction]
            return [0]
        if self.model.is_refused(transaction):
            del self.model.open[transaction]
            return [4]
        return [0] + numbers(self.model.commit(transaction))

    def broken(self, request):
        """Return the body of a malformed request."""
        body = self.body_of(request)
        if request[0] == 2:
            return self.chance.choice((body + [0] * 41, body[:4 + 2 * self.dimensions], [], [0], [11]))
        return self.chance.choice((body + [0], body[:-1], [0], [200] + body))

    def send(self, session, body):
        """Send a frame in pieces, and return the responses."""
        data = [len(body) // 256, len(body) % 256] + body
        found = []
        while data:
            many = self.chance.choice((1, 2, 5, 100))
            found += self.server.receive(session, data[:many])
            data = data[many:]
        return found

    def turn(self):
        session = self.chance.choice(list(self.transactions))
        if self.chance.randrange(60) == 0:
            self.assertIsNone(self.server.end(session))
            self.model.open.pop(self.transactions.pop(session), None)
            self.transactions[self.server.start()] = None
            return
        request = self.any_request()
        if self.chance.randrange(12) == 0:
            self.assertEqual(self.send(session, self.broken(request)), [0, 1, 1])
            return
        expected = self.expected(session, request)
        found = self.send(session, self.body_of(request))
        self.assertEqual(found, [len(expected) // 256, len(expected) % 256] + expected, request)

    def test_any_requests(self):
        for seed in range(12):
            with self.subTest(seed=seed):
                self.begin((1, 2, 8)[seed % 3], ("sum", "greatest", "unlike")[seed // 3 % 3], seed)
                for _ in range(400):
                    self.turn()


if __name__ == "__main__":
    unittest.main()
