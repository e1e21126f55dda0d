"""Tests of nearvault.server: frames, requests, responses and sessions (points 24 and 25)."""

import random
import unittest

from nearvault.errors import NoTransaction, PowerCut
from nearvault.server import Server
from support import CheckedStore, RecordingDevice, coordinates, numbers

GREATEST = 2**32 - 1

BEGIN, COMMIT, ABORT, VACUUM, CHECKPOINT = [1], [7], [8], [9], [10]


def put(key, point, payload=()):
    return [2] + numbers(key) + coordinates(point) + list(payload)


def delete(key):
    return [3] + numbers(key)


def get(key):
    return [4] + numbers(key)


def between(low=0, high=GREATEST):
    return [5] + numbers(low, high)


def nearest(point, count, low=0, high=GREATEST):
    return [6] + coordinates(point) + [count] + numbers(low, high)


def frame(body):
    return list(len(body).to_bytes(2, "big")) + list(body)


def bodies(data):
    """Return the bodies of the frames that data consist of."""
    found = []
    while data:
        end = 2 + 256 * data[0] + data[1]
        assert len(data) >= end
        found.append(data[2:end])
        data = data[end:]
    return found


def written(*records):
    """Return the bytes of records in a response."""
    data = []
    for key, point, payload in records:
        data += numbers(key) + coordinates(point) + [len(payload)] + list(payload)
    return data


def done(*parts):
    return [0] + numbers(*parts)


class ServerTest(unittest.TestCase):
    def setUp(self):
        self.begin(2, "sum")

    def begin(self, dimensions, metric):
        self.device = RecordingDevice()
        self.store = CheckedStore(self.device, dimensions, metric)
        self.server = Server(self.store)
        self.session = self.server.start()

    def ask(self, body, session=None):
        """Send one request, and return the body of its response."""
        found = bodies(self.server.receive(session or self.session, frame(body)))
        self.assertEqual(len(found), 1)
        return found[0]

    def check(self, *pairs, session=None):
        for body, expected in pairs:
            self.assertEqual(self.ask(body, session), expected, body)

    def records(self):
        transaction = self.store.begin()
        found = self.store.between(transaction, 0, GREATEST)
        self.store.abort(transaction)
        return found


A = (1, (0, 0), (1, 2, 3))
B = (258, (3, -4), ())
C = (GREATEST, (32767, -32768), tuple(range(40)))


class RequestTest(ServerTest):
    def test_a_whole_session_written_out(self):
        request = [0, 1, 1]
        request += [0, 11, 2, 0, 0, 1, 2, 128, 3, 127, 252, 9, 255]
        request += [0, 5, 4, 0, 0, 1, 2]
        request += [0, 14, 6, 128, 0, 128, 0, 2, 0, 0, 0, 0, 255, 255, 255, 255]
        request += [0, 1, 7]
        expected = [0, 5, 0, 0, 0, 0, 0]
        expected += [0, 1, 0]
        expected += [0, 12, 0, 0, 0, 1, 2, 128, 3, 127, 252, 2, 9, 255]
        expected += [0, 16, 0, 0, 0, 0, 7, 0, 0, 1, 2, 128, 3, 127, 252, 2, 9, 255]
        expected += [0, 5, 0, 0, 0, 0, 1]
        self.assertEqual(self.server.receive(self.session, request), expected)
        self.assertEqual(self.records(), [(258, (3, -4), (9, 255))])

    def test_begin(self):
        self.check((BEGIN, done(0)), (put(*A), [0]), (COMMIT, done(1)), (BEGIN, done(1)), (ABORT, [0]))
        self.check((BEGIN, done(1)), (delete(5), [0]), (COMMIT, done(2)), (BEGIN, done(2)))

    def test_put(self):
        self.check((BEGIN, done(0)))
        self.check(*[(put(*record), [0]) for record in (C, A, B)])
        self.assertEqual(self.records(), [])
        self.check((COMMIT, done(1)))
        self.assertEqual(self.records(), [A, B, C])

    def test_delete(self):
        self.check((BEGIN, done(0)), (put(*A), [0]), (put(*B), [0]), (COMMIT, done(1)))
        self.check((BEGIN, done(1)), (delete(258), [0]), (delete(77), [0]), (COMMIT, done(2)))
        self.assertEqual(self.records(), [A])

    def test_get(self):
        self.check((BEGIN, done(0)), (put(*A), [0]), (put(*B), [0]), (put(*C), [0]))
        for record in (A, B, C):
            self.check((get(record[0]), [0] + written(record)))
        self.check((get(0), [0]), (get(2), [0]), (delete(1), [0]), (get(1), [0]))

    def test_range(self):
        self.check((BEGIN, done(0)), (between(), [0]))
        self.check(*[(put(*record), [0]) for record in (C, B, A)])
        self.check(
            (between(), [0] + written(A, B, C)),
            (between(1, 258), [0] + written(A, B)),
            (between(2, GREATEST), [0] + written(B, C)),
            (between(258, 258), [0] + written(B)),
            (between(2, 257), [0]),
            (between(258, 1), [0]),
        )

    def test_nearest(self):
        self.check((BEGIN, done(0)), (nearest((0, 0), 1), [0]))
        self.check(*[(put(*record), [0]) for record in (C, B, A)], (COMMIT, done(1)), (BEGIN, done(1)))
        first, second, third = done(0) + written(A), numbers(7) + written(B), numbers(65535) + written(C)
        self.check(
            (nearest((0, 0), 1), first),
            (nearest((0, 0), 2), first + second),
            (nearest((0, 0), 255), first + second + third),
            (nearest((0, 0), 3, 2), [0] + second + third),
            (nearest((0, 0), 1, 2), [0] + second),
            (nearest((0, 0), 3, 0, 258), first + second),
            (nearest((0, 0), 3, 259, 260), [0]),
            (nearest((0, 0), 3, 260, 259), [0]),
            (nearest((3, -4), 2), done(0) + written(B) + numbers(7) + written(A)),
        )

    def test_commit_and_abort(self):
        self.check((BEGIN, done(0)), (COMMIT, done(0)), (BEGIN, done(0)), (ABORT, [0]))
        self.check((BEGIN, done(0)), (put(*A), [0]), (ABORT, [0]), (BEGIN, done(0)), (between(), [0]))
        self.check((delete(9), [0]), (COMMIT, done(1)), (BEGIN, done(1)), (COMMIT, done(1)))

    def test_vacuum(self):
        self.check((VACUUM, done(0)))
        for turn in range(3):
            self.check((BEGIN, done(turn)), (put(*A), [0]), (COMMIT, done(turn + 1)))
        self.check((VACUUM, done(2)), (VACUUM, done(0)), (BEGIN, done(3)), (delete(1), [0]), (VACUUM, done(0)))
        self.check((COMMIT, done(4)), (VACUUM, done(1)))
        self.assertEqual(self.store.versions(), [])

    def test_checkpoint(self):
        self.check((CHECKPOINT, [0]))
        self.check((BEGIN, done(0)), (put(*A), [0]), (CHECKPOINT, [0]), (COMMIT, done(1)))
        self.assertNotEqual(self.device.log(), [])
        self.check((CHECKPOINT, [0]))
        self.assertEqual(self.device.log(), [])

    def test_each_number_of_dimensions(self):
        for dimensions in range(1, 9):
            self.begin(dimensions, "greatest")
            point = tuple(k * 1000 - 3000 for k in range(dimensions))
            rows = [(5, point, (1,)), (6, (32767,) * dimensions, (2,) * 40), (7, (-32768,) * dimensions, ())]
            self.check((BEGIN, done(0)), *[(put(*row), [0]) for row in rows])
            self.check((between(), [0] + written(*rows)), (get(6), [0] + written(rows[1])))
            self.check((nearest((32767,) * dimensions, 1), done(0) + written(rows[1])))
            response = done(0) + written(rows[2]) + numbers(65535) + written(rows[1])
            self.check((nearest((-32768,) * dimensions, 9, 6), response))
            # With a coordinate more or less it is another request, or none.
            for other in (point[:-1], point + (0,)):
                self.check((nearest(other, 1), [1]))

    def test_a_payload_of_each_length(self):
        self.check((BEGIN, done(0)))
        for many in range(41):
            record = (many, (1, 2), (many,) * many)
            self.check((put(*record), [0]), (get(many), [0] + written(record)))


class MalformedTest(ServerTest):
    WELL_FORMED = (BEGIN, put(*A), delete(1), get(1), between(), nearest((1, 1), 1), COMMIT, ABORT, VACUUM, CHECKPOINT)

    def check_malformed(self, body):
        last = self.store.last_commit()
        # Both with and without a transaction.
        self.check((body, [1]), (BEGIN, done(last)), (body, [1]), (ABORT, [0]))
        self.assertEqual(self.store.last_commit(), last)

    def test_no_code(self):
        self.check_malformed([])

    def test_unknown_codes(self):
        for code in (0, 11, 12, 127, 128, 255):
            self.check_malformed([code])
            self.check_malformed([code] + [0] * 4)
            self.check_malformed([code] + [0] * 20)

    def test_missing_bytes(self):
        for body in self.WELL_FORMED:
            least = len(put(1, (0, 0))) if body[0] == 2 else len(body)
            for many in range(1, least):
                self.check_malformed(body[:many])

    def test_bytes_too_many(self):
        for body in self.WELL_FORMED:
            if body[0] != 2:
                for more in ([0], [255], [0, 0], [1] * 40):
                    self.check_malformed(body + more)

    def test_a_payload_of_more_than_40_bytes(self):
        for many in (41, 42, 255, 256, 1000, 65000):
            self.check_malformed(put(1, (0, 0), (0,) * many))

    def test_a_count_of_0(self):
        self.check_malformed(nearest((1, 1), 0))
        self.check_malformed(nearest((0, 0), 0, 5, 4))
        self.check((BEGIN, done(0)), (nearest((0, 0), 1), [0]))

    def test_a_malformed_request_changes_nothing(self):
        self.check((BEGIN, done(0)), (put(*A), [0]))
        for body in ([], [99], [7, 0], [8, 0], [1, 0], delete(1) + [0], put(1, (5, 5), (0,) * 41), [9, 9], [10, 0]):
            self.check((body, [1]))
        self.check((between(), [0] + written(A)), (COMMIT, done(1)))
        self.assertEqual(self.records(), [A])


class ErrorsTest(ServerTest):
    def test_no_transaction(self):
        for _ in range(2):
            for body in (put(*A), delete(1), get(1), between(), nearest((0, 0), 1), COMMIT, ABORT):
                self.check((body, [2]))
            # Behind a commit and an abort there is none either.
            self.check((BEGIN, done(0)), (COMMIT, done(0)), (BEGIN, done(0)), (ABORT, [0]))
        self.check((VACUUM, done(0)), (CHECKPOINT, [0]))

    def test_a_second_begin(self):
        self.check((BEGIN, done(0)), (put(*A), [0]), (BEGIN, [3]), (BEGIN, [3]), (get(1), [0] + written(A)))
        self.check((COMMIT, done(1)), (BEGIN, done(1)))

    def test_a_conflict(self):
        other = self.server.start()
        self.check((BEGIN, done(0)), (put(*A), [0]), (put(*B), [0]))
        self.check((BEGIN, done(0)), (put(1, (9, 9)), [0]), (COMMIT, done(1)), session=other)
        # The transaction has ended.
        self.check((COMMIT, [4]), (COMMIT, [2]), (get(1), [2]), (BEGIN, done(1)))
        self.check((get(1), [0] + written((1, (9, 9), ()))), (get(258), [0]))
        self.check((put(*A), [0]), (COMMIT, done(2)))
        self.assertEqual(self.records(), [A])

    def test_the_order_of_the_errors(self):
        # Malformed comes before what is said of transactions.
        for body in (delete(1)[:-1], COMMIT + [0], put(1, (0, 0), (0,) * 41), nearest((0, 0), 0)):
            self.check((body, [1]))
        self.check((BEGIN, done(0)), (BEGIN + [0], [1]), (BEGIN, [3]), (ABORT, [0]), (COMMIT, [2]))
        # Without a transaction a range of too many records is not asked for.
        self.commit_long()
        self.check((between(), [2]), (BEGIN, done(1)), (between(), [5]), (between() + [1], [1]))

    def commit_long(self):
        """Commit records that have one byte too many for a response."""
        transaction = self.store.begin()
        for record in records_of_length(65535, 2):
            self.store.put(transaction, *record)
        self.store.commit(transaction)


def records_of_length(total, dimensions):
    """Return records that have so many bytes in a response, those of keys from 0 on."""
    least, most = 5 + 2 * dimensions, 45 + 2 * dimensions
    records = []
    while total > 0:
        size = total if least <= total <= most else min(most, total - least)
        records.append((len(records), (len(records) % 99,) * dimensions, (7,) * (size - least)))
        total -= size
    return records


class LongResponseTest(ServerTest):
    def put_all(self, records):
        self.check((BEGIN, done(0)))
        for record in records:
            self.server.receive(self.session, frame(put(*record)))

    def test_a_range_of_exactly_65535_bytes(self):
        for dimensions in (1, 8):
            self.begin(dimensions, "sum")
            records = records_of_length(65534, dimensions)
            self.put_all(records)
            response = self.server.receive(self.session, frame(between()))
            self.assertEqual(len(response), 2 + 65535)
            self.assertEqual(response, [255, 255, 0] + written(*records))

    def test_a_range_of_more_bytes(self):
        for total in (65535, 65536, 70000, 131070):
            self.begin(2, "sum")
            records = records_of_length(total, 2)
            self.put_all(records)
            self.check((between(), [5]))
            self.assertEqual(self.server.receive(self.session, frame(between())), [0, 1, 5])
            # The transaction goes on, and a shorter range is told.
            self.check((between(0, 9), [0] + written(*records[:10])), (BEGIN, [3]), (ABORT, [0]))

    def test_a_range_of_committed_records(self):
        records = records_of_length(65535, 2)
        transaction = self.store.begin()
        for record in records:
            self.store.put(transaction, *record)
        self.store.commit(transaction)
        self.check((BEGIN, done(1)), (between(), [5]), (between(1), [0] + written(*records[1:])), (COMMIT, done(1)))

    def test_the_longest_response_of_nearest(self):
        # At most 255 records of at most 65 bytes each are never too long.
        self.begin(8, "sum")
        records = [(key, (0,) * 8, (key % 256,) * 40) for key in range(300)]
        self.put_all(records)
        response = self.ask(nearest((0,) * 8, 255))
        self.assertEqual(len(response), 1 + 255 * 65)
        self.assertEqual(response[1:131], numbers(0) + written(records[0]) + numbers(0) + written(records[1]))

    def put_long(self, payloads):
        """Put records with longer payloads than a request can have."""
        self.begin(1, "sum")
        self.check((BEGIN, done(0)))
        records = [(key, (0,), payload) for key, payload in enumerate(payloads)]
        for record in records:
            self.store.put(1, *record)
        return records

    def test_a_longer_response_of_nearest(self):
        records = self.put_long([(9,) * 255] * 255)
        expected = [byte for record in records[:246] for byte in numbers(0) + written(record)]
        self.check((nearest((0,), 255), [5]), (nearest((0,), 247), [5]), (nearest((0,), 246), [0] + expected))

    def test_the_limit_of_nearest(self):
        # 246 rows of 266 bytes, and one that fills the rest or has a byte too many.
        rest = 65534 - 246 * 266 - 11
        self.put_long([(9,) * 255] * 246 + [(8,) * rest])
        response = self.ask(nearest((0,), 247))
        self.assertEqual((len(response), response[-rest - 1:]), (65535, [rest] + [8] * rest))
        self.put_long([(9,) * 255] * 246 + [(8,) * (rest + 1)])
        self.check((nearest((0,), 247), [5]), (nearest((0,), 1), done(0) + written((0, (0,), (9,) * 255))))


class FramesTest(ServerTest):
    BODIES = [
        BEGIN, put(*A), [], put(*C), get(1), [99], nearest((0, 0), 9), between(), COMMIT, COMMIT,
        BEGIN, delete(1), COMMIT, VACUUM, CHECKPOINT, BEGIN, between(), ABORT,
    ]

    def setUp(self):
        super().setUp()
        self.request = [byte for body in self.BODIES for byte in frame(body)]
        self.expected = []
        for body in self.BODIES:
            self.expected += frame(self.ask(body))
        super().setUp()

    def test_all_frames_in_one_piece(self):
        self.assertEqual(self.server.receive(self.session, self.request), self.expected)

    def test_pieces_of_one_byte(self):
        found = [self.server.receive(self.session, [byte]) for byte in self.request]
        self.assertEqual(sum(found, []), self.expected)
        # Each response comes with the last byte of its request.
        place = 0
        for body in self.BODIES:
            ends = place + len(body) + 1
            self.assertEqual([bool(part) for part in found[place:ends + 1]], [False] * (ends - place) + [True])
            place = ends + 1

    def test_pieces_of_each_length(self):
        for length in (2, 3, 4, 7, 11, 50, len(self.request) - 1):
            super().setUp()
            found = []
            for place in range(0, len(self.request), length):
                found += self.server.receive(self.session, self.request[place:place + length])
            self.assertEqual(found, self.expected)

    def test_random_pieces(self):
        for seed in range(30):
            super().setUp()
            chance = random.Random(seed)
            found, place = [], 0
            while place < len(self.request):
                end = place + chance.choice((0, 1, 1, 2, 5, 40))
                found += self.server.receive(self.session, self.request[place:end])
                place = end
            self.assertEqual(found, self.expected)

    def test_no_bytes(self):
        self.assertEqual(self.server.receive(self.session, []), [])
        self.server.receive(self.session, [0])
        self.assertEqual(self.server.receive(self.session, []), [])
        self.assertEqual(self.server.receive(self.session, [1, 1]), [0, 5, 0, 0, 0, 0, 0])

    def test_an_empty_frame(self):
        self.assertEqual(self.server.receive(self.session, [0, 0]), [0, 1, 1])
        self.assertEqual(self.server.receive(self.session, [0, 0, 0, 0, 0]), [0, 1, 1] * 2)
        self.assertEqual(self.server.receive(self.session, [0]), [0, 1, 1])

    def test_what_follows_a_complete_frame_stays(self):
        self.assertEqual(self.server.receive(self.session, [0, 1, 1, 0, 5, 3, 0]), [0, 5, 0, 0, 0, 0, 0])
        self.assertEqual(self.server.receive(self.session, [0, 0, 9, 0]), [0, 1, 0])
        self.assertEqual(self.server.receive(self.session, [1]), [])
        self.assertEqual(self.server.receive(self.session, [7, 0]), [0, 5, 0, 0, 0, 0, 1])

    def test_a_frame_of_the_greatest_length(self):
        long = [255, 255] + [2] * 65535
        for k in range(0, len(long) - 1, 1000):
            self.assertEqual(self.server.receive(self.session, long[k:min(k + 1000, len(long) - 1)]), [])
        self.assertEqual(self.server.receive(self.session, [2, 0, 1, 1]), [0, 1, 1, 0, 5, 0, 0, 0, 0, 0])
        # The same in pieces of one byte takes no more than a moment.
        found = [self.server.receive(self.session, [byte]) for byte in long]
        self.assertEqual(found[-1], [0, 1, 1])
        self.assertEqual(sum(map(len, found)), 3)

    def test_what_is_handed_over_and_out(self):
        data = self.request[:10]
        before = list(data)
        found = self.server.receive(self.session, data)
        self.assertEqual(data, before)
        # Neither list has anything to do with the server any more.
        data.clear()
        found.clear()
        self.assertEqual(self.server.receive(self.session, self.request[10:]), self.expected[7:])


class SessionsTest(ServerTest):
    def test_sessions_are_numbered(self):
        self.assertEqual(self.session, 1)
        self.assertEqual([self.server.start() for _ in range(3)], [2, 3, 4])
        self.assertIsNone(self.server.end(4))
        self.assertIsNone(self.server.end(2))
        self.assertIsNone(self.server.end(2))
        self.assertEqual(self.server.start(), 5)
        self.assertEqual(Server(self.store).start(), 1)

    def test_sessions_in_turns_with_their_own_transactions(self):
        other, third = self.server.start(), self.server.start()
        self.check((BEGIN, done(0)), (put(*A), [0]))
        self.check((BEGIN, done(0)), (put(*B), [0]), (between(), [0] + written(B)), session=other)
        self.check((get(1), [2]), (BEGIN, done(0)), (between(), [0]), session=third)
        self.check((between(), [0] + written(A)), (COMMIT, done(1)))
        self.check((between(), [0] + written(B)), (COMMIT, done(2)), session=other)
        self.check((between(), [0]), (COMMIT, done(2)), (BEGIN, done(2)), session=third)
        self.check((between(), [0] + written(A, B)), session=third)

    def test_sessions_with_their_own_bytes(self):
        other = self.server.start()
        self.assertEqual(self.server.receive(self.session, [0, 1]), [])
        self.assertEqual(self.server.receive(other, [0, 0, 0]), [0, 1, 1])
        self.assertEqual(self.server.receive(self.session, [1, 0]), [0, 5, 0, 0, 0, 0, 0])
        self.assertEqual(self.server.receive(other, [1, 7]), [0, 1, 2])
        self.assertEqual(self.server.receive(self.session, [1, 7]), [0, 5, 0, 0, 0, 0, 0])

    def test_a_session_that_ends_with_an_open_transaction(self):
        other = self.server.start()
        self.check((BEGIN, done(0)), (put(*A), [0]), (COMMIT, done(1)), (BEGIN, done(1)), (put(*B), [0]))
        self.check((BEGIN, done(1)), (delete(1), [0]), (COMMIT, done(2)), session=other)
        # While it is open a vacuum removes nothing.
        self.check((VACUUM, done(0)), session=other)
        self.assertIsNone(self.server.end(self.session))
        self.check((VACUUM, done(1)), session=other)
        self.assertEqual(self.records(), [])
        with self.assertRaises(NoTransaction):
            self.store.snapshot(2)

    def test_a_session_that_ends_without_a_transaction(self):
        self.server.end(self.session)
        self.session = self.server.start()
        self.check((BEGIN, done(0)), (put(*A), [0]), (COMMIT, done(1)))
        self.server.end(self.session)
        self.assertEqual(self.records(), [A])

    def test_an_incomplete_frame_is_dropped_at_the_end(self):
        other = self.server.start()
        self.check((BEGIN, done(0)), (put(*A), [0]))
        self.assertEqual(self.server.receive(self.session, [0, 1]), [])
        self.server.end(self.session)
        session = self.server.start()
        self.assertEqual(self.server.receive(session, [7]), [])
        self.assertEqual(self.server.receive(session, [0] * 1792), [])
        self.assertEqual(self.server.receive(session, [0]), [0, 1, 1])
        self.check((BEGIN, done(0)), (between(), [0]), session=other)

    def test_transactions_beside_those_of_sessions(self):
        transaction = self.store.begin()
        self.store.put(transaction, *A)
        self.check((BEGIN, done(0)), (put(*A), [0]), (between(), [0] + written(A)))
        self.store.commit(transaction)
        self.check((COMMIT, [4]), (BEGIN, done(1)), (between(), [0] + written(A)))

    def test_two_servers_of_one_store(self):
        other = Server(self.store)
        session = other.start()
        self.check((BEGIN, done(0)), (put(*A), [0]), (COMMIT, done(1)))
        self.assertEqual(other.receive(session, frame(BEGIN) + frame(get(1))), frame(done(1)) + frame([0] + written(A)))


class PowerTest(ServerTest):
    def test_a_power_cut_is_raised_to_the_caller(self):
        for body in (COMMIT, VACUUM, CHECKPOINT):
            self.begin(2, "sum")
            self.check((BEGIN, done(0)), (put(*A), [0]), (COMMIT, done(1)), (BEGIN, done(1)), (delete(1), [0]))
            if body == VACUUM:
                self.check((COMMIT, done(2)))
            self.device.limit(2)
            with self.assertRaises(PowerCut):
                self.server.receive(self.session, frame(body))
            self.device.crash([], 0)
            self.store = CheckedStore(self.device, 2, "sum")
            self.assertEqual(self.records(), [A] if body != VACUUM else [])

    def test_other_requests_need_no_power(self):
        self.check((BEGIN, done(0)), (put(*A), [0]), (COMMIT, done(1)))
        self.device.take_asked()
        self.device.limit(0)
        self.check((BEGIN, done(1)), (put(*B), [0]), (delete(1), [0]), (get(258), [0] + written(B)))
        self.check((between(), [0] + written(B)), (nearest((3, -4), 1), done(0) + written(B)), (ABORT, [0]))
        self.check((BEGIN, done(1)), (COMMIT, done(1)), (VACUUM, done(0)), ([], [1]))
        self.assertEqual(self.device.take_asked(), [])


if __name__ == "__main__":
    unittest.main()
