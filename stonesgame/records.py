"""Games' records, as lists of bytes: how they are written, and how they are read."""

from stonesgame.game import LARGEST, PASSED, SMALLEST

# By x or y: its letter. The largest board has just so many.
LETTERS = "abcdefghijklmnopqrs"

# How many bytes a turn has, and how many of them stand ahead of its letters.
PASS_LENGTH = 4
PLAY_LENGTH = 6
AHEAD_OF_LETTERS = 3


def codes(text):
    """The bytes of a text."""
    return [ord(sign) for sign in text]


def head(size):
    """What stands ahead of a record's turns."""
    return f"(;FF[4]GM[1]SZ[{size}]"


def turn_letter(number):
    """The letter of the colour whose turn it is behind so many turns."""
    return "B" if number % 2 == 0 else "W"


def turn_text(size, number, point):
    """How the turn behind so many turns stands in a record."""
    letter = turn_letter(number)
    if point == PASSED:
        return f";{letter}[]"
    x = LETTERS[point % size]
    y = LETTERS[point // size]
    return f";{letter}[{x}{y}]"


def written(size, points):
    """The record of a game's turns, each told by its point or as PASSED."""
    record = codes(head(size))
    for number, point in enumerate(points):
        record.extend(codes(turn_text(size, number, point)))
    record.extend(codes(")"))
    return record


def stands_at(record, place, text):
    """Whether a text's bytes stand in a record from a place on."""
    return record[place:place + len(text)] == codes(text)


def size_read(record):
    """The board's size by a record's head, or None where no head is."""
    for size in range(SMALLEST, LARGEST + 1):
        if stands_at(record, 0, head(size)):
            return size
    return None


def point_read(size, letters):
    """The point that two letters' bytes name, or None where they name none."""
    on_board = codes(LETTERS[:size])
    if len(letters) < 2 or letters[0] not in on_board or letters[1] not in on_board:
        return None
    return on_board.index(letters[1]) * size + on_board.index(letters[0])


def turn_read(size, record, place, number):
    """The point of the turn at a place, or PASSED, or None where no such turn is."""
    if stands_at(record, place, turn_text(size, number, PASSED)):
        return PASSED
    letters = place + AHEAD_OF_LETTERS
    point = point_read(size, record[letters:letters + 2])
    if point is None or not stands_at(record, place, turn_text(size, number, point)):
        return None
    return point


def points_read(size, record):
    """The points of a record's turns, or None where it isn't one behind its head."""
    points = []
    place = len(head(size))
    while not stands_at(record, place, ")"):
        point = turn_read(size, record, place, len(points))
        if point is None:
            return None
        points.append(point)
        place += PASS_LENGTH if point == PASSED else PLAY_LENGTH
    # Nothing may stand behind the record.
    return points if place + 1 == len(record) else None
