"""The texts of papers, which tell their form alone."""

from alikeread.booktext import check_end, line_at
from alikeread.errors import BadPaper, BadText
from alikeread.kinds import are_below, is_below

MOST_STAGES = 2000
MOST_ITEMS = 60
MOST_NUMBERS = 60
LONGEST_ROW = 20000
# How many numbers stand behind the rows of an item.
ENDS = {"block": 0, "stops": 0, "round": 2}


def paper_text(value):
    """Return the text of a paper."""
    if not _is_form(value):
        raise BadPaper("this is not of the form of a paper")
    stages, home = value
    lines = [f"paper {len(stages)} {home}"]
    for stage in stages:
        lines.append(f"stage {len(stage)}")
        lines.extend([_item_line(item) for item in stage])
    return "".join([line + "\n" for line in lines])


def paper_of(text):
    """Return the paper of a text."""
    lines = text.split("\n")
    many, home = _header_of(lines)
    number_by_piece = {str(number): number for number in range(MOST_NUMBERS)}
    stages = []
    at = 1
    for _ in range(many):
        size = _size_at(lines, at)
        stages.append(tuple([_item_at(lines, at + 1 + k, number_by_piece) for k in range(size)]))
        at += 1 + size
    check_end(lines, at)
    return tuple(stages), home


def _is_form(value):
    """Tell whether a value of any kind is of the form of a paper."""
    if not isinstance(value, tuple) or len(value) != 2:
        return False
    stages, home = value
    if not isinstance(stages, tuple) or len(stages) > MOST_STAGES or not is_below(home, len(stages)):
        return False
    return all([_is_stage(stage) for stage in stages])


def _is_stage(value):
    """Tell whether a value of any kind is of the form of a stage."""
    return isinstance(value, tuple) and len(value) <= MOST_ITEMS and all([_is_item(item) for item in value])


def _is_item(value):
    """Tell whether a value of any kind is of the form of an item."""
    if not isinstance(value, tuple) or len(value) == 0 or not isinstance(value[0], str):
        return False
    kind = value[0]
    if kind == "missing":
        return len(value) == 1
    if kind not in ENDS or len(value) != 3 + ENDS[kind]:
        return False
    rows = [are_below(row, MOST_NUMBERS) and 1 <= len(row) <= LONGEST_ROW for row in value[1:3]]
    ends = [is_below(number, LONGEST_ROW + 1) and number > 0 for number in value[3:]]
    return all(rows + ends)


def _item_line(item):
    """Return the line of an item."""
    if len(item) == 1:
        return item[0]
    numbers = [*item[1], "/", *item[2], *item[3:]]
    return " ".join([item[0]] + [str(number) for number in numbers])


def _header_of(lines):
    """Return the number of stages and the number of the home that the first line tells."""
    pieces = line_at(lines, 0).split(" ")
    if len(pieces) != 3 or pieces[0] != "paper":
        raise BadText(1)
    many = _number(pieces[1], MOST_STAGES)
    home = _number(pieces[2], MOST_STAGES)
    if many is None or home is None or home >= many:
        raise BadText(1)
    return many, home


def _size_at(lines, at):
    """Return the number of items that the first line of a stage tells."""
    pieces = line_at(lines, at).split(" ")
    size = _number(pieces[1], MOST_ITEMS) if len(pieces) == 2 and pieces[0] == "stage" else None
    if size is None:
        raise BadText(at + 1)
    return size


def _item_at(lines, at, number_by_piece):
    """Return the item that a line tells."""
    pieces = line_at(lines, at).split(" ")
    kind = pieces[0]
    if kind == "missing" and len(pieces) == 1:
        return (kind,)
    if kind not in ENDS or "/" not in pieces:
        raise BadText(at + 1)
    slash = pieces.index("/")
    end = len(pieces) - ENDS[kind]
    rows = [_row(pieces[1:slash], number_by_piece), _row(pieces[slash + 1:end], number_by_piece)]
    ends = [_number(piece, LONGEST_ROW) for piece in pieces[end:]]
    if None in rows + ends or 0 in ends:
        raise BadText(at + 1)
    return (kind, *rows, *ends)


def _row(pieces, number_by_piece):
    """Return the row that some strings write, or None."""
    if not 1 <= len(pieces) <= LONGEST_ROW or not all([piece in number_by_piece for piece in pieces]):
        return None
    return tuple([number_by_piece[piece] for piece in pieces])


def _number(piece, most):
    """Return the number up to `most` that a string writes without needless zeros, or None."""
    # Long strings of figures are not looked at by int, which fails at some of them.
    if len(piece) > len(str(most)) or not piece.isascii() or not piece.isdigit():
        return None
    number = int(piece)
    return number if number <= most and piece == str(number) else None
