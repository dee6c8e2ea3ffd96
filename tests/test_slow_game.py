"""The program beside a second, slow writing of the rules, on many games."""

import itertools
import random
import unittest

from tests.helper import BOARD, PASS, UNDO, SlowGame, ask, begin, play, slow_answers


def random_call(dice, n, undos):
    """A call of any sort; some points lie just off the board."""
    sort = dice.random()
    if sort < undos:
        return UNDO
    if sort < undos + 0.04:
        return PASS
    if sort < undos + 0.08:
        return BOARD
    return play(dice.randint(0, n - 1) if dice.random() < 0.98 else dice.choice((-1, n)),
                dice.randint(0, n - 1) if dice.random() < 0.98 else dice.choice((-1, n)))


def full_game(dice, n):
    """Calls that take 1024 turns, or None where the game came to its end before."""
    game = SlowGame(n)
    calls = [begin(n)]
    places = [(x, y) for x in range(n) for y in range(n)]
    while len(game.turns) < 1024:
        dice.shuffle(places)
        call = next((play(*place) for place in places if game.take_turn(place) == 0), None)
        if call is None:
            game.take_turn(None)
        if game.at_end():
            return None
        calls.append(call or PASS)
    return calls


class SameAsTheSlowGame(unittest.TestCase):
    def check(self, calls):
        given = ask(*calls)
        asked = slow_answers(calls)
        for k, call in enumerate(calls):
            if given[k] != asked[k]:
                self.fail(f"call {k}, {call}, of {calls[:k + 1]}: {given[k]}, not {asked[k]}")
        self.assertEqual(len(given), len(asked))
        return [part[0] for part in given]

    def test_all_short_games_on_the_smallest_board(self):
        choices = [play(0, 0), play(1, 0), play(0, 1), play(1, 1), PASS, UNDO]
        for calls in itertools.product(choices, repeat=5):
            self.check([begin(2), *calls, BOARD])

    def test_random_games_on_small_boards(self):
        refusals = set()
        for n in (2, 3, 4, 5):
            for seed in range(12):
                dice = random.Random(100 * n + seed)
                undos = (0.02, 0.1, 0.3)[seed % 3]
                calls = [begin(n)] + [random_call(dice, n, undos) for k in range(400)]
                refusals |= set(self.check(calls + [BOARD]))
        # Else these games would not have tried what they are here for.
        self.assertLessEqual({-2, -3, -5, -6, -7}, refusals)

    def test_random_games_on_larger_boards(self):
        for n in (7, 9, 13, 19):
            dice = random.Random(n)
            self.check([begin(n)] + [random_call(dice, n, 0.05) for k in range(500)] + [BOARD])

    def test_1024_turns_and_every_call_behind_them(self):
        games = [full_game(random.Random(seed), n) for n in (4, 5) for seed in range(7)]
        games = [calls for calls in games if calls is not None]
        self.assertGreaterEqual(len(games), 3)
        for calls in games:
            tries = [play(x, y) for x in range(-1, 6) for y in range(-1, 6)]
            self.assertEqual(set(self.check(calls + tries + [PASS])[1025:]), {-2, -4})
            self.check(calls + [UNDO] + tries + [UNDO] + tries[::-1] + [PASS, PASS, PASS, BOARD])


if __name__ == "__main__":
    unittest.main()
