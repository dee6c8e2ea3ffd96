"""The calls on one game, handed over in one list, and what they answer."""

from stonesgame.area import areas
from stonesgame.chains import BLACK, EMPTY, WHITE, liberties, part_at
from stonesgame.game import DONE, Game, LARGEST, NOT_ON_BOARD, is_size
from stonesgame.life import living_stones
from stonesgame.records import points_read, size_read, written

WRONG_SIZE = -2
WRONG_LENGTH = -2
NO_RECORD = -1
RECORD_TOO_LONG = -1

# A record's first turn that can't be taken is told by this, less its number.
TURN_REFUSED = -100

MOST_BYTES = 8192

PLAY = 1
PASS = 2
UNDO = 3
BOARD = 4
GROUP = 5
AREA = 6
LIVES = 7
LOAD = 8

# By a call's number, save's (9) among them: how many numbers it is handed, of
# load's how many ahead of its bytes.
HANDED = {1: 2, 2: 0, 3: 0, 4: 0, 5: 2, 6: 0, 7: 0, 8: 1, 9: 1}


class Table:
    """Where one game is played, till a load puts another in its place."""

    def __init__(self, size):
        self.game = Game(size)

    def load(self, record):
        """Put a record's game here, or tell why it can't be."""
        if len(record) > MOST_BYTES:
            return WRONG_LENGTH
        size = size_read(record)
        if size is None:
            return NO_RECORD
        points = points_read(size, record)
        if points is None:
            return NO_RECORD
        # A refused load must leave the game that is here as it was.
        game = Game(size)
        for number, point in enumerate(points, start=1):
            if game.take_turn(point) != DONE:
                return TURN_REFUSED - number
        self.game = game
        return len(points)


def full_board(points):
    """The points of a board, and EMPTY behind them up to the largest board."""
    behind = LARGEST * LARGEST - len(points)
    return points + [EMPTY for place in range(behind)]


def board_answer(game):
    """What the call board answers."""
    answer = [len(game.turns)]
    answer.extend(full_board(game.stones))
    answer.append(game.whose_turn())
    answer.append(1 if game.is_at_end() else 0)
    answer.append(game.taken_off[BLACK])
    answer.append(game.taken_off[WHITE])
    return answer


def group_answer(game, x, y):
    """What the call group answers."""
    if not game.is_on_board(x, y):
        return [NOT_ON_BOARD]
    point = game.point_at(x, y)
    colour = game.stones[point]
    if colour == EMPTY:
        return [DONE]
    chain = part_at(game.stones, game.beside, point, (colour,))
    return [colour, len(chain), len(liberties(game.stones, game.beside, chain))]


def area_answer(game):
    """What the call area answers."""
    sizes = areas(game.stones, game.beside)
    return [DONE, sizes[BLACK], sizes[WHITE]]


def lives_answer(game):
    """What the call lives answers."""
    living = living_stones(game.stones, game.beside)
    return [len(living) - living.count(EMPTY)] + full_board(living)


def save_answer(game, most):
    """What the call save answers."""
    if most < 0 or most > MOST_BYTES:
        return [WRONG_LENGTH]
    record = written(game.size, [turn[0] for turn in game.turns])
    if len(record) > most:
        return [RECORD_TOO_LONG]
    return [len(record)] + record


def told(game, call, handed):
    """What a call answers that only asks: its first number and all others."""
    if call == BOARD:
        return board_answer(game)
    if call == GROUP:
        return group_answer(game, handed[0], handed[1])
    if call == AREA:
        return area_answer(game)
    if call == LIVES:
        return lives_answer(game)
    return save_answer(game, handed[0])


def call_answer(table, call, handed):
    """What a call behind begin answers: its first number and all others."""
    if call == PLAY:
        return [table.game.play(handed[0], handed[1])]
    if call == PASS:
        return [table.game.pass_turn()]
    if call == UNDO:
        return [table.game.undo()]
    if call == LOAD:
        return [table.load(handed[1:])]
    return told(table.game, call, handed)


def place_behind(calls, place):
    """Where the call at a place of the list is over."""
    behind = place + 1 + HANDED[calls[place]]
    if calls[place] == LOAD:
        behind += calls[place + 1]
    return behind


def answers(calls):
    """For each call in order: how many numbers it answers, then these."""
    size = calls[1]
    if not is_size(size):
        return [1, WRONG_SIZE]
    table = Table(size)
    given = [1, DONE]
    place = 2
    while place < len(calls):
        behind = place_behind(calls, place)
        answer = call_answer(table, calls[place], calls[place + 1:behind])
        given.append(len(answer))
        given.extend(answer)
        place = behind
    return given
