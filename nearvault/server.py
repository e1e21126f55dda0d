"""The server: answers the requests of sessions, which arrive in frames."""

from nearvault.errors import Conflict
from nearvault.keytree import MOST_PAYLOAD
from nearvault.points import COORDINATE_WIDTH, NUMBER_WIDTH, read_number, read_point, write_number, write_point

LENGTH_WIDTH = 2
MOST_BODY = 65535

BEGIN = 1
PUT = 2
DELETE = 3
GET = 4
RANGE = 5
NEAREST = 6
COMMIT = 7
ABORT = 8
VACUUM = 9
CHECKPOINT = 10

# How many numbers, points and single bytes stand behind each code. The payload
# is not among them, as it may be empty.
FIELDS = {
    BEGIN: (0, 0, 0),
    PUT: (1, 1, 0),
    DELETE: (1, 0, 0),
    GET: (1, 0, 0),
    RANGE: (2, 0, 0),
    NEAREST: (2, 1, 1),
    COMMIT: (0, 0, 0),
    ABORT: (0, 0, 0),
    VACUUM: (0, 0, 0),
    CHECKPOINT: (0, 0, 0),
}

# How a response begins: with the number of an error, or with this byte.
DONE = 0
MALFORMED = 1
WITHOUT_TRANSACTION = 2
WITH_TRANSACTION = 3
CONFLICT = 4
TOO_LONG = 5


def complete_frames(data):
    """Return the bodies of the complete frames that data begin with, and where these end."""
    bodies = []
    end = 0
    place = LENGTH_WIDTH
    while place <= len(data):
        body_end = place + read_number(data, end, LENGTH_WIDTH)
        if body_end > len(data):
            break
        bodies.append(data[place:body_end])
        end = body_end
        place = end + LENGTH_WIDTH
    return (bodies, end)


def point_width(dimensions):
    """Return how many bytes a point has."""
    return COORDINATE_WIDTH * dimensions


def is_malformed(body, dimensions):
    """Return whether a request has no known code or other fields than its code asks for."""
    if not body or body[0] not in FIELDS:
        return True
    numbers, points, single_bytes = FIELDS[body[0]]
    behind = len(body) - 1 - NUMBER_WIDTH * numbers - point_width(dimensions) * points - single_bytes
    if body[0] == PUT:
        return not 0 <= behind <= MOST_PAYLOAD
    if behind != 0:
        return True
    return body[0] == NEAREST and body[1 + point_width(dimensions)] == 0


def write_record(record):
    """Return the bytes of a record in a response."""
    key, point, payload = record
    return write_number(NUMBER_WIDTH, key) + write_point(point) + [len(payload)] + list(payload)


def put_record(store, transaction, body):
    """Answer a put."""
    key = read_number(body, 1, NUMBER_WIDTH)
    point_place = 1 + NUMBER_WIDTH
    point = read_point(body, point_place, store.dimensions)
    store.put(transaction, key, point, tuple(body[point_place + point_width(store.dimensions):]))
    return []


def delete_key(store, transaction, body):
    """Answer a delete."""
    store.delete(transaction, read_number(body, 1, NUMBER_WIDTH))
    return []


def get_record(store, transaction, body):
    """Answer a get."""
    record = store.get(transaction, read_number(body, 1, NUMBER_WIDTH))
    if record is None:
        return []
    return write_record(record)


def range_of_records(store, transaction, body):
    """Answer a range."""
    low = read_number(body, 1, NUMBER_WIDTH)
    high = read_number(body, 1 + NUMBER_WIDTH, NUMBER_WIDTH)
    data = []
    for record in store.between(transaction, low, high):
        data.extend(write_record(record))
    return data


def nearest_records(store, transaction, body):
    """Answer a nearest."""
    count_place = 1 + point_width(store.dimensions)
    point = read_point(body, 1, store.dimensions)
    low = read_number(body, count_place + 1, NUMBER_WIDTH)
    high = read_number(body, count_place + 1 + NUMBER_WIDTH, NUMBER_WIDTH)
    data = []
    for row in store.nearest(transaction, point, body[count_place], low, high):
        data.extend(write_number(NUMBER_WIDTH, row[0]) + write_record(row[1:]))
    return data


# The requests that leave the transaction of their session open.
ACTIONS = {
    PUT: put_record,
    DELETE: delete_key,
    GET: get_record,
    RANGE: range_of_records,
    NEAREST: nearest_records,
}


class Server:
    """The sessions of a store."""

    def __init__(self, store):
        self._store = store
        self._last_session = 0
        # Of each session the bytes without a complete frame, and its transaction or None.
        self._waiting = {}
        self._transactions = {}

    def start(self):
        """Return a new session."""
        self._last_session += 1
        self._waiting[self._last_session] = []
        self._transactions[self._last_session] = None
        return self._last_session

    def receive(self, session, data):
        """Take bytes of a session, and return the bytes of the responses."""
        waiting = self._waiting[session]
        waiting.extend(data)
        bodies, end = complete_frames(waiting)
        del waiting[:end]
        responses = []
        for body in bodies:
            response = self._answer(session, body)
            responses.extend(write_number(LENGTH_WIDTH, len(response)) + response)
        return responses

    def end(self, session):
        """End a session and abort its transaction."""
        transaction = self._transactions.pop(session, None)
        if transaction is not None:
            self._store.abort(transaction)
        self._waiting.pop(session, None)

    def _answer(self, session, body):
        """Return the body of the response to a request."""
        error = self._error_of(session, body)
        if error != DONE:
            return [error]
        try:
            fields = self._perform(session, body)
        except Conflict:
            return [CONFLICT]
        if 1 + len(fields) > MOST_BODY:
            return [TOO_LONG]
        return [DONE] + fields

    def _error_of(self, session, body):
        """Return the number of the error that bars a request, or DONE if none does."""
        if is_malformed(body, self._store.dimensions):
            return MALFORMED
        has_transaction = self._transactions[session] is not None
        if PUT <= body[0] <= ABORT and not has_transaction:
            return WITHOUT_TRANSACTION
        if body[0] == BEGIN and has_transaction:
            return WITH_TRANSACTION
        return DONE

    def _perform(self, session, body):
        """Perform a request, and return the bytes behind the 0 of its response."""
        code = body[0]
        if code == BEGIN:
            return self._begin(session)
        if code == COMMIT:
            return write_number(NUMBER_WIDTH, self._store.commit(self._take_transaction(session)))
        if code == ABORT:
            self._store.abort(self._take_transaction(session))
            return []
        if code == VACUUM:
            return write_number(NUMBER_WIDTH, self._store.vacuum())
        if code == CHECKPOINT:
            self._store.checkpoint()
            return []
        action = ACTIONS[code]
        return action(self._store, self._transactions[session], body)

    def _begin(self, session):
        """Begin the transaction of a session, and return its snapshot's bytes."""
        transaction = self._store.begin()
        self._transactions[session] = transaction
        return write_number(NUMBER_WIDTH, self._store.snapshot(transaction))

    def _take_transaction(self, session):
        """Return the transaction of a session, which is without one from now on."""
        transaction = self._transactions[session]
        self._transactions[session] = None
        return transaction
