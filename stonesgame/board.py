"""The calls on one game, handed over in one list, and what they answer."""

from stonesgame.chains import BLACK, EMPTY, WHITE
from stonesgame.game import DONE, Game, LARGEST, is_size

WRONG_SIZE = -2

PLAY = 1
PASS = 2
UNDO = 3

# By a call's number, board's (4) among them: how many numbers it is handed.
HANDED = {1: 2, 2: 0, 3: 0, 4: 0}


def full_board(points):
    """The points of a board, and EMPTY behind them up to the largest board."""
    behind = LARGEST * LARGEST - len(points)
    return points + [EMPTY for place in range(behind)]


def board_answer(game):
    """What the call board answers."""
    answer = [len(game.turns)]
    answer.extend(full_board(game.stones))
    answer.append(game.whose_turn())
    answer.append(1 if game.is_at_end() else 0)
    answer.append(game.taken_off[BLACK])
    answer.append(game.taken_off[WHITE])
    return answer


def call_answer(game, call, handed):
    """What a call behind begin answers: its first number and all others."""
    if call == PLAY:
        return [game.play(handed[0], handed[1])]
    if call == PASS:
        return [game.pass_turn()]
    if call == UNDO:
        return [game.undo()]
    return board_answer(game)


def answers(calls):
    """For each call in order: how many numbers it answers, then these."""
    size = calls[1]
    if not is_size(size):
        return [1, WRONG_SIZE]
    game = Game(size)
    given = [1, DONE]
    place = 2
    while place < len(calls):
        call = calls[place]
        behind = place + 1 + HANDED[call]
        answer = call_answer(game, call, calls[place + 1:behind])
        given.append(len(answer))
        given.extend(answer)
        place = behind
    return given
