import unittest

from tests.helper import BOARD, PASS, UNDO, after, ask, begin, group, load, long_game, play, record


class Group(unittest.TestCase):
    def check(self, text, place, asked):
        self.assertEqual(after(text, 1, group(*place)), [asked], (text, place))

    def test_points_that_are_not_on_the_board(self):
        for n in (2, 5, 18, 19):
            for far in (-2147483648, -19, -2, -1, n, n + 1, n * n, 2147483647):
                for x, y in ((far, 0), (0, far), (far, far), (n - 1, far), (far, n - 1)):
                    self.assertEqual(ask(begin(n), play(0, 0), group(x, y))[-1], [-2], (n, x, y))

    def test_the_corners_of_the_board_are_on_it(self):
        for n in range(2, 20):
            corners = [group(0, 0), group(n - 1, 0), group(0, n - 1), group(n - 1, n - 1)]
            self.assertEqual(ask(begin(n), *corners)[1:], [[0]] * 4)

    def test_an_empty_point_is_0_alone(self):
        self.assertEqual(ask(begin(5), group(2, 2), play(2, 1), group(2, 2)), [[0], [0], [0], [0]])
        self.check("XX. X.X .X.", (1, 1), [0])
        self.check("OO. O.O .O.", (1, 1), [0])

    def test_one_stone(self):
        self.assertEqual(ask(begin(5), play(2, 2), group(2, 2))[-1], [1, 1, 4])
        self.assertEqual(ask(begin(5), PASS, play(2, 2), group(2, 2))[-1], [2, 1, 4])

    def test_one_stone_at_the_edge_and_in_the_corner(self):
        self.assertEqual(ask(begin(5), play(2, 0), group(2, 0))[-1], [1, 1, 3])
        self.assertEqual(ask(begin(5), play(0, 3), group(0, 3))[-1], [1, 1, 3])
        self.assertEqual(ask(begin(5), play(4, 3), group(4, 3))[-1], [1, 1, 3])
        self.assertEqual(ask(begin(5), play(3, 4), group(3, 4))[-1], [1, 1, 3])
        for x, y in ((0, 0), (18, 0), (0, 18), (18, 18)):
            self.assertEqual(ask(begin(19), play(x, y), group(x, y))[-1], [1, 1, 2])

    def test_x_goes_right_and_y_down(self):
        self.check("..X ... O..", (2, 0), [1, 1, 2])
        self.check("..X ... O..", (0, 2), [2, 1, 2])
        self.check("..X .X. ...", (1, 1), [1, 1, 4])

    def test_a_chain_of_many_is_the_same_from_each_of_its_stones(self):
        text = "..... .XXX. .X... .XX.. ....."
        for place in ((1, 1), (2, 1), (3, 1), (1, 2), (1, 3), (2, 3)):
            self.check(text, place, [1, 6, 12])

    def test_a_liberty_beside_several_stones_counts_once(self):
        # (1, 1) is beside two stones, then three, then four of the chain.
        self.check("XX. X.. ...", (0, 0), [1, 3, 3])
        self.check("XXX X.. ...", (0, 0), [1, 4, 3])
        self.check("XXX X.X XXX", (0, 0), [1, 8, 1])

    def test_stones_at_a_slant_are_other_chains(self):
        self.check("X.. .X. ..X", (0, 0), [1, 1, 2])
        self.check("X.. .X. ..X", (1, 1), [1, 1, 4])

    def test_a_row_end_is_not_beside_the_next_row_s_start(self):
        self.check("..X X.. ...", (2, 0), [1, 1, 2])
        self.check("..X X.. ...", (0, 1), [1, 1, 3])

    def test_the_other_s_stones_are_no_liberties_and_no_part(self):
        self.check("XXO .O. ...", (0, 0), [1, 2, 1])
        self.check("XXO .O. ...", (2, 0), [2, 1, 1])
        self.check("XXO .O. ...", (1, 1), [2, 1, 3])

    def test_a_chain_round_a_corner_and_through_a_maze(self):
        text = "XXXXX ....X XXXXX X.... XXXXX"
        for place in ((0, 0), (4, 2), (4, 4)):
            self.check(text, place, [1, 17, 8])

    def test_a_chain_that_fills_the_board_but_for_one_point(self):
        given = ask(begin(19), *long_game()[:720], group(0, 0), group(17, 18), group(18, 18))
        self.assertEqual(given[-3:], [[2, 360, 1], [2, 360, 1], [0]])

    def test_after_stones_were_taken_off(self):
        calls = [begin(5), play(1, 0), play(0, 0), group(1, 0), play(0, 1), group(0, 0), group(1, 0), group(0, 1)]
        self.assertEqual([ask(*calls)[k] for k in (3, 5, 6, 7)], [[1, 1, 2], [0], [1, 1, 3], [1, 1, 3]])

    def test_after_undo(self):
        calls = [begin(5), play(1, 0), play(0, 0), play(0, 1), UNDO, group(0, 0), UNDO, group(0, 0), group(1, 0)]
        self.assertEqual([ask(*calls)[k] for k in (5, 7, 8)], [[2, 1, 1], [0], [1, 1, 3]])

    def test_after_a_load_the_board_is_the_record_s(self):
        turns = [play(1, 0), play(0, 0), play(0, 1), play(4, 4)]
        calls = [begin(2), load(record(5, turns)), group(4, 4), group(0, 0), group(1, 0), group(5, 0)]
        self.assertEqual(ask(*calls)[2:], [[2, 1, 2], [0], [1, 1, 3], [-2]])
        calls = [begin(5), play(4, 4), load(record(2, [])), group(4, 4), group(1, 1)]
        self.assertEqual(ask(*calls)[3:], [[-2], [0]])

    def test_at_the_end_of_the_game(self):
        self.assertEqual(ask(begin(5), play(2, 2), PASS, PASS, group(2, 2))[-1], [1, 1, 4])

    def test_asking_changes_nothing(self):
        given = ask(begin(3), play(1, 1), BOARD, group(1, 1), group(0, 0), group(3, 3), BOARD, group(1, 1))
        self.assertEqual(given[6], given[2])
        self.assertEqual(given[7], given[3])


if __name__ == "__main__":
    unittest.main()
