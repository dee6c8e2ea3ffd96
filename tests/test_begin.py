import unittest

from stonesgame.board import answers
from tests.helper import BOARD, ask, begin, last_view, play


class Begin(unittest.TestCase):
    def test_all_sizes_from_2_to_19_begin(self):
        for n in range(2, 20):
            self.assertEqual(answers([0, n]), [1, 0], n)

    def test_other_sizes_are_refused(self):
        for n in (1, 0, -1, -2, -19, 20, 21, 361, 2147483647, -2147483648):
            self.assertEqual(answers([0, n]), [1, -2], n)

    def test_a_new_game_is_empty_with_black_first(self):
        for n in range(2, 20):
            self.assertEqual(ask(begin(n), BOARD)[1], [0] + [0] * 361 + [1, 0, 0, 0])

    def test_the_board_has_n_by_n_points(self):
        for n in range(2, 20):
            given = ask(begin(n), play(n - 1, n - 1), play(n, n - 1), play(n - 1, n), play(n - 1, 0))
            self.assertEqual(given, [[0], [0], [-2], [-2], [0]], n)
            view = last_view(begin(n), play(n - 1, n - 1))
            self.assertEqual(view["points"], [0] * (n * n - 1) + [1] + [0] * (361 - n * n), n)


if __name__ == "__main__":
    unittest.main()
