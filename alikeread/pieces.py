"""Rows that are made of pieces, counted and in order.

The pieces begin with letters that are all different and are in ascending order.
So a row is made of them in one way, the rows of one length are counted by their
first pieces, and the order of the first pieces is the order of the rows.
"""

LONGEST_COUNTED = 1000


def many_by_length(lengths):
    """Return some lengths in ascending order, each once and with how often it stands there."""
    many = {}
    for length in lengths:
        many[length] = many.get(length, 0) + 1
    return [(length, many[length]) for length in sorted(many)]


def ways_up_to(lengths, most):
    """Return in how many ways 0, 1 and so on up to `most` letters are made of pieces of some lengths."""
    parts = many_by_length(lengths)
    # Nothing is made in one way.
    ways = [1]
    for length in range(1, most + 1):
        ways.append(_ways_from(parts, ways, length))
    return ways


def pieces_with_number(lengths, number):
    """Return the numbers of the pieces, by their lengths, that make the row with a number, if it is not too long."""
    parts = many_by_length(lengths)
    ways = [1]
    left = number
    while len(parts) > 0 and len(ways) <= LONGEST_COUNTED:
        ways.append(_ways_from(parts, ways, len(ways)))
        if left < ways[-1]:
            return _pieces_among(lengths, ways, left)
        left = left - ways[-1]
    return None


def number_before(pieces, ways, row):
    """Return how many rows that are made of pieces come before a row, where the ways are told up to its length."""
    number = sum(ways[1:len(row)])
    piece_by_head = {piece[0]: piece for piece in pieces}
    parts_below = {}
    place = 0
    while place < len(row):
        head = row[place]
        if head not in parts_below:
            parts_below[head] = many_by_length([len(piece) for piece in pieces if piece[0] < head])
        number += _ways_from(parts_below[head], ways, len(row) - place)
        piece = piece_by_head.get(head)
        if piece is None or len(piece) > len(row) - place:
            break
        here = row[place:place + len(piece)]
        if piece < here:
            number += ways[len(row) - place - len(piece)]
        if piece != here:
            break
        place += len(piece)
    return number


def _ways_from(parts, ways, length):
    """Return in how many ways so many letters begin with pieces of some lengths, from the ways to go on."""
    number = 0
    for part, many in parts:
        if part > length:
            break
        number += many * ways[length - part]
    return number


def _pieces_among(lengths, ways, number):
    """Return the numbers of the pieces that make the row with a number among those of the last length told."""
    chosen = []
    room = len(ways) - 1
    left = number
    while room > 0:
        for k, length in enumerate(lengths):
            many = ways[room - length] if length <= room else 0
            if left < many:
                chosen.append(k)
                room = room - length
                break
            left = left - many
    return chosen
