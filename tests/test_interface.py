import contextlib
import io
import random
import time
import unittest

from stonesgame.board import answers
from tests.helper import (AREA, BOARD, LIVES, PASS, UNDO, begin, group, joined, load, long_game, play, record, save,
                          split)

# Far more than the calls should need, far less than what would be a fault.
SECONDS = 20


class Unchanging(list):
    """A list that fails on whatever would change it."""

    def refuse(self, *what):
        raise AssertionError("what is handed in is changed")

    append = clear = extend = insert = pop = remove = reverse = sort = refuse
    __setitem__ = __delitem__ = __iadd__ = __imul__ = refuse


SHORT = joined([begin(3), play(1, 0), play(0, 0), play(0, 1), play(9, 9), BOARD, PASS, PASS, PASS, UNDO, BOARD,
                group(1, 0), group(0, 0), group(-1, 0), AREA, LIVES, save(8192), save(3), load("(;"),
                load(record(4, [play(1, 1), PASS, play(2, 2)])), BOARD, UNDO, save(8192), LIVES, AREA])


def every_call(n, count):
    """Many calls of all sorts on a board of n, of a length that one list may have."""
    dice = random.Random(n)
    calls = [begin(n)]
    while len(calls) < count:
        place = (dice.randrange(n), dice.randrange(n))
        calls.append(dice.choice((play(*place), play(*place), group(*place), PASS, UNDO, BOARD, AREA, LIVES, save(8192))))
        if len(calls) % 250 == 0:
            calls.append(load(record(n, [play(k % n, k // n) for k in range(n * n // 2)])))
    return calls


class Interface(unittest.TestCase):
    def timed(self, calls):
        start = time.perf_counter()
        given = answers(calls)
        self.assertLess(time.perf_counter() - start, SECONDS)
        return given

    def check_same(self, given, asked):
        """Like assertEqual, without its account of how long lists differ, which takes minutes."""
        differ = [k for k in range(min(len(given), len(asked))) if given[k] != asked[k]]
        self.assertEqual((len(given), differ[:10]), (len(asked), []))

    def test_each_answer_stands_behind_how_many_numbers_it_has(self):
        given = answers([0, 2, 1, 0, 0, 1, 0, 0, 3, 4, 2])
        self.assertEqual(given, [1, 0, 1, 0, 1, -5, 1, 0, 366] + [0] * 362 + [1, 0, 0, 0] + [1, 0])

    def test_a_refused_begin_is_the_only_call(self):
        self.assertEqual(answers([0, 20]), [1, -2])

    def test_begin_alone(self):
        self.assertEqual(answers([0, 19]), [1, 0])

    def test_the_numbers_of_calls_are_told_from_those_handed_over(self):
        # 3 and 4 stand for points here, and for undo and board.
        given = split(answers([0, 5, 1, 3, 4, 1, 4, 3, 3, 4]))
        self.assertEqual(given[:4], [[0], [0], [0], [0]])
        self.assertEqual(given[4], [1] + [0] * 23 + [1] + [0] * 337 + [2, 0, 0, 0])

    def test_each_answer_of_the_later_calls(self):
        given = answers(joined([begin(2), play(0, 0), group(0, 0), group(1, 0), group(2, 0), AREA, LIVES, save(24),
                                save(23), save(-1), load("(;FF[4]GM[1]SZ[3];B[])"), load("")]))
        self.assertEqual(given, [1, 0, 1, 0, 3, 1, 1, 2, 1, 0, 1, -2, 3, 0, 4, 0, 362] + [0] * 362
                         + [25, 24, *b"(;FF[4]GM[1]SZ[2];B[aa])", 1, -1, 1, -2, 1, 1, 1, -1])

    def test_all_numbers_are_int(self):
        given = answers(SHORT)
        self.assertIs(type(given), list)
        self.assertEqual({type(number) for number in given}, {int})

    def test_what_is_handed_in_is_not_changed(self):
        loads = joined([begin(5), load(record(19, long_game())), BOARD, LIVES, save(8192), load([0, 255])])
        for calls in (SHORT, [0, 1], joined([begin(19), *long_game(), BOARD]), loads, joined(every_call(9, 300))):
            kept = list(calls)
            answers(calls)
            self.assertEqual(calls, kept)
            self.assertEqual(answers(Unchanging(kept)), answers(kept))

    def test_nothing_is_kept_from_one_time_to_the_next(self):
        first = answers(SHORT)
        kept = list(first)
        answers([0, 19, 1, 0, 0, 2, 2])
        answers(joined([begin(3), load(record(7, [play(6, 6)]))]))
        answers([0, 1])
        first.append(7)
        first[1] = 9
        self.assertEqual(answers(SHORT), kept)
        self.assertEqual(answers([0, 3, 1, 1, 0]), [1, 0, 1, 0])

    def test_the_same_list_asked_twice_answers_the_same(self):
        for n in (2, 9, 19):
            calls = joined(every_call(n, 400))
            self.check_same(answers(calls), answers(calls))

    def test_nothing_is_printed(self):
        out, err = io.StringIO(), io.StringIO()
        with contextlib.redirect_stdout(out), contextlib.redirect_stderr(err):
            answers(SHORT)
        self.assertEqual((out.getvalue(), err.getvalue()), ("", ""))

    def test_2000_boards_asked_for(self):
        given = self.timed(joined([begin(19)] + [BOARD] * 1999))
        self.assertEqual(len(given), 2 + 1999 * 367)
        self.check_same(given[2:], ([366] + [0] * 362 + [1, 0, 0, 0]) * 1999)

    def test_2000_calls_that_take_all_off_and_put_all_back(self):
        calls = [begin(19), *long_game()[:720]] + [play(18, 18), UNDO] * 639 + [BOARD]
        given = split(self.timed(joined(calls)))
        self.assertEqual(len(given), 2000)
        self.check_same(given[:-1], [[0]] * 1999)
        self.check_same(given[-1], [720] + [2] * 360 + [0, 1, 0, 0, 0])

    def test_2000_calls_with_1024_turns(self):
        calls = [begin(19), *long_game()] + [play(0, 0)] * 300 + [UNDO] * 674 + [BOARD]
        given = split(self.timed(joined(calls)))
        self.assertEqual(len(given), 2000)
        self.check_same(given[:-1], [[0]] * 1025 + [[-4]] * 300 + [[0]] * 674)
        self.assertEqual(given[-1][0], 350)

    def test_2000_calls_with_a_chain_that_would_fill_the_board(self):
        calls = [begin(19), *long_game()[:720], PASS] + [play(18, 18)] * 1277 + [BOARD]
        given = split(self.timed(joined(calls)))
        self.assertEqual(len(given), 2000)
        self.check_same(given[:-1], [[0]] * 722 + [[-6]] * 1277)
        self.check_same(given[-1], [721] + [2] * 360 + [0, 2, 0, 0, 0])

    def test_2000_times_what_lives_on_a_board_with_many_chains(self):
        turns = [call for k in range(1, 361, 2) for call in (play(k % 19, k // 19), PASS)]
        given = split(self.timed(joined([begin(19), *turns] + [LIVES] * (1999 - len(turns)))))
        self.assertEqual(len(given), 2000)
        # Each stone has two points beside it at least, and each of these is a piece of its own.
        self.assertEqual(given[-1], [180] + [k % 2 for k in range(361)])
        self.check_same(given[1 + len(turns):], [given[-1]] * (1999 - len(turns)))

    def test_2000_times_what_lives_where_chains_fall_one_by_one(self):
        # Columns with one column between, and two at the right: all fall, from the right to the left.
        turns = [call for x in range(1, 16, 2) for y in range(18) for call in (play(x, y), PASS)]
        given = split(self.timed(joined([begin(18), *turns] + [LIVES] * (1999 - len(turns)))))
        self.check_same(given[1 + len(turns):], [[0] * 362] * (1999 - len(turns)))

    def test_2000_groups_and_areas(self):
        calls = [begin(19), *long_game()[:720]] + [group(0, 0), AREA] * 639 + [BOARD]
        given = split(self.timed(joined(calls)))
        self.check_same(given[721:-1], [[2, 360, 1], [0, 0, 361]] * 639)

    def test_loads_in_30000_numbers(self):
        long = load(record(19, long_game()))
        calls = joined([begin(19)] + [long] * 5 + [save(8192)])
        calls += [5, 19, 0] * ((30000 - len(calls)) // 3)
        self.assertGreater(len(calls), 29997)
        given = split(self.timed(calls))
        self.assertLessEqual(len(given), 2000)
        self.assertEqual(given[1:6], [[1024]] * 5)
        self.assertEqual(given[6], [len(long) - 2] + long[2:])
        self.assertEqual(set(map(tuple, given[7:])), {(-2,)})

    def test_many_short_loads(self):
        calls = [begin(19)] + [load(record(19, [])), load([]), BOARD] * 660
        given = split(self.timed(joined(calls)))
        self.check_same(given[1:], [[0], [-1], [0] * 362 + [1, 0, 0, 0]] * 660)

    def test_2000_calls_of_all_sorts(self):
        for n in (2, 9, 19):
            calls = every_call(n, 1990)
            self.assertEqual({call[0] for call in calls}, set(range(10)))
            self.assertLessEqual(len(calls), 2000)
            self.assertLessEqual(len(joined(calls)), 30000)
            given = self.timed(joined(calls))
            self.assertLess(len(given), 1000000)
            self.assertEqual(len(split(given)), len(calls))

    def test_saves_of_nearly_a_million_numbers(self):
        calls = joined([begin(19), *long_game()] + [save(8192)] * 190)
        given = split(self.timed(calls))
        asked = record(19, long_game()).encode()
        self.check_same(given[1025:], [[len(asked), *asked]] * 190)


if __name__ == "__main__":
    unittest.main()
