"""The program beside a second, slow writing of the rules, on many games."""

import itertools
import random
import unittest

from tests.helper import (AREA, BOARD, LIVES, PASS, UNDO, SlowGame, ask, begin, full_game, group, load, play, save,
                          slow_answers)

SIGNS = "(;FGMSZBW[]0123456789abcdefghijklmnopqrstA \n\0\xff)"


def random_place(dice, n):
    """A place's x and y, some of them just off the board."""
    return [dice.randint(0, n - 1) if dice.random() < 0.98 else dice.choice((-1, n)) for k in range(2)]


def random_call(dice, n, undos):
    """A call that plays or asks."""
    sort = dice.random()
    if sort < undos:
        return UNDO
    if sort < undos + 0.04:
        return PASS
    if sort < undos + 0.08:
        return dice.choice((BOARD, AREA, LIVES, group(*random_place(dice, n))))
    return play(*random_place(dice, n))


def spoiled(dice, text):
    """A record with a sign changed, left out or put in, or with two turns or more changed about."""
    place = dice.randrange(len(text))
    sort = dice.randrange(5)
    if sort == 0:
        return text[:place] + dice.choice(SIGNS) + text[place + 1:]
    if sort == 1:
        return text[:place] + text[place + 1:]
    if sort == 2:
        return text[:place] + dice.choice(SIGNS) + text[place:]
    if sort == 3:
        return text[:place]
    head, *turns = text[:-1].split(";")[1:]
    points = [turn[1:] for turn in turns]
    dice.shuffle(points)
    return f"(;{head}" + "".join(f";{'BW'[k % 2]}{point}" for k, point in enumerate(points)) + ")"


def record_calls(dice, n, count):
    """Calls with loads and saves of games that were there, whole and spoiled, among them."""
    game = SlowGame(n)
    records = [game.record()]
    calls = [begin(n)]
    while len(calls) < count:
        sort = dice.random()
        if sort < 0.02:
            text = dice.choice(records)
            call = load(text if dice.random() < 0.3 else spoiled(dice, text))
        elif sort < 0.04:
            records.append(game.record())
            size = len(records[-1])
            call = save(dice.choice((-1, 0, size - 1, size, size + 1, 8192, 8193)))
        else:
            call = random_call(dice, game.n, 0.05)
        game.answer(call)
        calls.append(call)
    return calls


class SameAsTheSlowGame(unittest.TestCase):
    def check(self, calls):
        given = ask(*calls)
        asked = slow_answers(calls)
        for k, call in enumerate(calls):
            if given[k] != asked[k]:
                self.fail(f"call {k}, {call}, of {calls[:k + 1]}: {given[k]}, not {asked[k]}")
        self.assertEqual(len(given), len(asked))
        return [part[0] for part in given]

    def test_all_short_games_on_the_smallest_board(self):
        choices = [play(0, 0), play(1, 0), play(0, 1), play(1, 1), PASS, UNDO]
        for calls in itertools.product(choices, repeat=5):
            self.check([begin(2), *calls, BOARD])

    def test_random_games_on_small_boards(self):
        refusals = set()
        for n in (2, 3, 4, 5):
            for seed in range(12):
                dice = random.Random(100 * n + seed)
                undos = (0.02, 0.1, 0.3)[seed % 3]
                calls = [begin(n)] + [random_call(dice, n, undos) for k in range(400)]
                refusals |= set(self.check(calls + [BOARD]))
        # Else these games would not have tried what they are here for.
        self.assertLessEqual({-2, -3, -5, -6, -7}, refusals)

    def test_random_games_on_larger_boards(self):
        for n in (7, 9, 13, 19):
            dice = random.Random(n)
            self.check([begin(n)] + [random_call(dice, n, 0.05) for k in range(500)] + [BOARD])

    def test_random_games_with_records(self):
        loads = set()
        for n in (2, 3, 4, 5, 7):
            for seed in range(6):
                calls = record_calls(random.Random(10 * n + seed), n, 500)
                given = self.check(calls + [BOARD, AREA, LIVES, save(8192)])
                loads |= {min(answer, 1) for call, answer in zip(calls, given) if call[0] == 8}
        # Else these games would not have tried what they are here for.
        self.assertLessEqual({1, -1}, loads)
        self.assertLess(min(loads), -101)

    def test_random_games_with_records_on_the_largest_board(self):
        self.check(record_calls(random.Random(19), 19, 400) + [BOARD, AREA, LIVES, save(8192)])

    def test_every_call_behind_each_turn(self):
        for n in (2, 3, 4):
            dice = random.Random(n)
            groups = [group(x, y) for x in range(-1, n + 1) for y in range(-1, n + 1)]
            turns = [random_call(dice, n, 0.02) for k in range(50)]
            self.check([begin(n)] + [call for turn in turns for call in (turn, BOARD, *groups, AREA, LIVES, save(8192))])

    def test_1024_turns_and_every_call_behind_them(self):
        games = [full_game(random.Random(seed), n) for n in (4, 5) for seed in range(7)]
        games = [calls for calls in games if calls is not None]
        self.assertGreaterEqual(len(games), 3)
        for calls in games:
            tries = [play(x, y) for x in range(-1, 6) for y in range(-1, 6)]
            self.assertEqual(set(self.check(calls + tries + [PASS])[1025:]), {-2, -4})
            self.check(calls + [UNDO] + tries + [UNDO] + tries[::-1] + [PASS, PASS, PASS, BOARD])


if __name__ == "__main__":
    unittest.main()
