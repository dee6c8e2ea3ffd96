import contextlib
import io
import time
import unittest

from stonesgame.board import answers
from tests.helper import BOARD, PASS, UNDO, begin, joined, long_game, play, split

# Far more than the calls should need, far less than what would be a fault.
SECONDS = 20


class Unchanging(list):
    """A list that fails on whatever would change it."""

    def refuse(self, *what):
        raise AssertionError("what is handed in is changed")

    append = clear = extend = insert = pop = remove = reverse = sort = refuse
    __setitem__ = __delitem__ = __iadd__ = __imul__ = refuse


SHORT = joined([begin(3), play(1, 0), play(0, 0), play(0, 1), play(9, 9), BOARD, PASS, PASS, PASS, UNDO, BOARD])


class Interface(unittest.TestCase):
    def timed(self, calls):
        start = time.perf_counter()
        given = answers(calls)
        self.assertLess(time.perf_counter() - start, SECONDS)
        return given

    def check_same(self, given, asked):
        """Like assertEqual, without its account of how long lists differ, which takes minutes."""
        differ = [k for k in range(min(len(given), len(asked))) if given[k] != asked[k]]
        self.assertEqual((len(given), differ[:10]), (len(asked), []))

    def test_each_answer_stands_behind_how_many_numbers_it_has(self):
        given = answers([0, 2, 1, 0, 0, 1, 0, 0, 3, 4, 2])
        self.assertEqual(given, [1, 0, 1, 0, 1, -5, 1, 0, 366] + [0] * 362 + [1, 0, 0, 0] + [1, 0])

    def test_a_refused_begin_is_the_only_call(self):
        self.assertEqual(answers([0, 20]), [1, -2])

    def test_begin_alone(self):
        self.assertEqual(answers([0, 19]), [1, 0])

    def test_the_numbers_of_calls_are_told_from_those_handed_over(self):
        # 3 and 4 stand for points here, and for undo and board.
        given = split(answers([0, 5, 1, 3, 4, 1, 4, 3, 3, 4]))
        self.assertEqual(given[:4], [[0], [0], [0], [0]])
        self.assertEqual(given[4], [1] + [0] * 23 + [1] + [0] * 337 + [2, 0, 0, 0])

    def test_all_numbers_are_int(self):
        given = answers(SHORT)
        self.assertIs(type(given), list)
        self.assertEqual({type(number) for number in given}, {int})

    def test_what_is_handed_in_is_not_changed(self):
        for calls in (SHORT, [0, 1], joined([begin(19), *long_game(), BOARD])):
            kept = list(calls)
            answers(calls)
            self.assertEqual(calls, kept)
            self.assertEqual(answers(Unchanging(kept)), answers(kept))

    def test_nothing_is_kept_from_one_time_to_the_next(self):
        first = answers(SHORT)
        kept = list(first)
        answers([0, 19, 1, 0, 0, 2, 2])
        answers([0, 1])
        first.append(7)
        first[1] = 9
        self.assertEqual(answers(SHORT), kept)
        self.assertEqual(answers([0, 3, 1, 1, 0]), [1, 0, 1, 0])

    def test_nothing_is_printed(self):
        out, err = io.StringIO(), io.StringIO()
        with contextlib.redirect_stdout(out), contextlib.redirect_stderr(err):
            answers(SHORT)
        self.assertEqual((out.getvalue(), err.getvalue()), ("", ""))

    def test_2000_boards_asked_for(self):
        given = self.timed(joined([begin(19)] + [BOARD] * 1999))
        self.assertEqual(len(given), 2 + 1999 * 367)
        self.check_same(given[2:], ([366] + [0] * 362 + [1, 0, 0, 0]) * 1999)

    def test_2000_calls_that_take_all_off_and_put_all_back(self):
        calls = [begin(19), *long_game()[:720]] + [play(18, 18), UNDO] * 639 + [BOARD]
        given = split(self.timed(joined(calls)))
        self.assertEqual(len(given), 2000)
        self.check_same(given[:-1], [[0]] * 1999)
        self.check_same(given[-1], [720] + [2] * 360 + [0, 1, 0, 0, 0])

    def test_2000_calls_with_1024_turns(self):
        calls = [begin(19), *long_game()] + [play(0, 0)] * 300 + [UNDO] * 674 + [BOARD]
        given = split(self.timed(joined(calls)))
        self.assertEqual(len(given), 2000)
        self.check_same(given[:-1], [[0]] * 1025 + [[-4]] * 300 + [[0]] * 674)
        self.assertEqual(given[-1][0], 350)

    def test_2000_calls_with_a_chain_that_would_fill_the_board(self):
        calls = [begin(19), *long_game()[:720], PASS] + [play(18, 18)] * 1277 + [BOARD]
        given = split(self.timed(joined(calls)))
        self.assertEqual(len(given), 2000)
        self.check_same(given[:-1], [[0]] * 722 + [[-6]] * 1277)
        self.check_same(given[-1], [721] + [2] * 360 + [0, 2, 0, 0, 0])


if __name__ == "__main__":
    unittest.main()
