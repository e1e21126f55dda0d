"""Distances of points, and how numbers and points are written in bytes."""

METRICS = ("sum", "greatest", "unlike")

# The width of each number in pages and in the log that has no width of its own.
NUMBER_WIDTH = 4
COORDINATE_WIDTH = 2
COORDINATE_SHIFT = 32768


def distance(metric, a, b):
    """Return the distance of two points with equally many coordinates."""
    differences = [abs(x - y) for x, y in zip(a, b)]
    if metric == "sum":
        return sum(differences)
    if metric == "greatest":
        return max(differences, default=0)
    return len([difference for difference in differences if difference != 0])


def write_number(width, number):
    """Return the bytes of a number, the most significant first."""
    return [(number >> (8 * k)) & 255 for k in reversed(range(width))]


def read_number(data, place, width):
    """Return the number of the bytes from a place on."""
    number = 0
    for k in range(place, place + width):
        number = number * 256 + data[k]
    return number


def write_point(point):
    """Return the bytes of a point, coordinate by coordinate."""
    data = []
    for coordinate in point:
        data.extend(write_number(COORDINATE_WIDTH, coordinate + COORDINATE_SHIFT))
    return data


def read_point(data, place, dimensions):
    """Return the point of the bytes from a place on."""
    places = range(place, place + COORDINATE_WIDTH * dimensions, COORDINATE_WIDTH)
    return tuple([read_number(data, at, COORDINATE_WIDTH) - COORDINATE_SHIFT for at in places])
