"""The groups of pages that the log of a device consists of."""

from nearvault.points import NUMBER_WIDTH, read_number, write_number

# A pair has a page number and the bytes of a page.
PAIR_SIZE = 260


def write_group(pairs):
    """Return the bytes of a group of pairs of a page number and 256 bytes."""
    data = write_number(NUMBER_WIDTH, len(pairs))
    for number, content in pairs:
        data.extend(write_number(NUMBER_WIDTH, number))
        data.extend(content)
    return data


def read_groups(data):
    """Return the complete groups of a log, each a list of pairs."""
    groups = []
    place = 0
    end = group_end(data, place)
    while end is not None:
        groups.append(read_pairs(data, place + NUMBER_WIDTH, end))
        place = end
        end = group_end(data, place)
    return groups


def group_end(data, place):
    """Return where the group from a place on ends, or None if it is incomplete."""
    pairs_place = place + NUMBER_WIDTH
    if pairs_place > len(data):
        return None
    end = pairs_place + PAIR_SIZE * read_number(data, place, NUMBER_WIDTH)
    if end > len(data):
        return None
    return end


def read_pairs(data, place, end):
    """Return the pairs that stand from a place up to an end."""
    pairs = []
    for at in range(place, end, PAIR_SIZE):
        number = read_number(data, at, NUMBER_WIDTH)
        pairs.append((number, data[at + NUMBER_WIDTH:at + PAIR_SIZE]))
    return pairs
