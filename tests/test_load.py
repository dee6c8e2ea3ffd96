import random
import unittest

from tests.helper import (AREA, BOARD, LIVES, PASS, UNDO, after, ask, begin, drawn, first_numbers, full_game, group,
                          last_view, load, long_game, picture, play, record, save)

HEAD = "(;FF[4]GM[1]SZ[5]"
GAME = HEAD + ";B[ba];W[aa];B[ab];W[];B[ee])"
KO = [play(1, 0), play(2, 0), play(0, 1), play(3, 1), play(1, 2), play(2, 2), play(2, 1), play(1, 1)]


def loaded(text, n=3):
    """What a load answers in a game on a board of n."""
    return ask(begin(n), load(text))[1]


class Records(unittest.TestCase):
    """What is a record, and what is none."""

    def check_none(self, text):
        self.assertEqual(loaded(text), [-1], text)

    def test_ordinary_records(self):
        self.assertEqual(loaded(HEAD + ")"), [0])
        self.assertEqual(loaded(HEAD + ";B[cc])"), [1])
        self.assertEqual(loaded(GAME), [5])

    def test_each_size_from_2_to_19(self):
        for n in range(2, 20):
            corner = play(n - 1, n - 1)
            self.assertEqual(loaded(record(n, [])), [0], n)
            self.assertEqual(loaded(record(n, [corner, PASS, play(0, n - 1)])), [3], n)
            points = ask(begin(2), load(record(n, [corner])), BOARD)[-1][1:362]
            self.assertEqual(points, [0] * (n * n - 1) + [1] + [0] * (361 - n * n), n)

    def test_other_sizes(self):
        for size in ("0", "1", "20", "21", "190", "02", "019", "00", "", " 5", "5 ", "+5", "-5", "5:5", "a", "5.", "][5",
                     "1\n9", "100", "2147483648", "\xb2", "9" * 5000):
            self.check_none(f"(;FF[4]GM[1]SZ[{size}])")
            self.check_none(f"(;FF[4]GM[1]SZ[{size}];B[aa])")

    def test_the_empty_list_of_bytes(self):
        self.assertEqual(ask(begin(5), load([]), BOARD, load([])), [[0], [-1], [0] * 362 + [1, 0, 0, 0], [-1]])

    def test_each_byte_of_the_head_wrong(self):
        for n in (5, 12):
            text = record(n, [play(0, 0)])
            head = len(record(n, [])) - 1
            sizes = [record(size, [play(0, 0)]) for size in range(2, 20)]
            for k in range(head):
                for byte in (0, 9, 10, 13, 32, 41, 48, 50, 59, 65, 97, 127, 255, ord(text[k]) ^ 32, ord(text[k]) ^ 128):
                    wrong = text[:k] + chr(byte) + text[k + 1:]
                    if wrong not in sizes:
                        self.check_none(wrong)

    def test_each_byte_of_the_head_left_out_or_twice(self):
        for k in range(len(HEAD)):
            self.check_none(GAME[:k] + GAME[k + 1:])
            self.check_none(GAME[:k] + GAME[k] + GAME[k:])

    def test_the_head_in_another_order_or_with_more(self):
        for head in ("(;GM[1]FF[4]SZ[5]", "(;SZ[5]FF[4]GM[1]", "(;FF[4]GM[1]", "(;FF[3]GM[1]SZ[5]", "(;FF[4]GM[2]SZ[5]",
                     "(;FF[4]GM[1]CA[UTF-8]SZ[5]", "(;FF[4]GM[1]SZ[5]KM[6]", "(;FF[4]GM[1]SZ[5]SZ[5]", "(;ff[4]gm[1]sz[5]",
                     "(; FF[4]GM[1]SZ[5]", "\n(;FF[4]GM[1]SZ[5]", "((;FF[4]GM[1]SZ[5]", ";FF[4]GM[1]SZ[5]"):
            self.check_none(head + ")")
            self.check_none(head + ";B[aa])")

    def test_bytes_behind_the_record(self):
        for behind in (")", "\n", " ", ";", "\0", "(", ";W[aa]", ";W[aa])", GAME):
            self.check_none(GAME + behind)
            self.check_none(HEAD + ")" + behind)

    def test_a_record_cut_off_at_every_place(self):
        for k in range(len(GAME)):
            self.check_none(GAME[:k])
        self.assertEqual(loaded(GAME), [5])

    def test_each_byte_of_the_turns_wrong(self):
        for k in range(len(HEAD), len(GAME)):
            for byte in (0, 10, 32, 33, 40, 47, 58, 60, 64, 92, 96, 102, 123, 255):
                self.check_none(GAME[:k] + chr(byte) + GAME[k + 1:])

    def test_each_byte_of_the_turns_left_out_or_twice(self):
        for k in range(len(HEAD), len(GAME)):
            self.check_none(GAME[:k] + GAME[k + 1:])
            self.check_none(GAME[:k] + GAME[k] + GAME[k:])

    def test_a_colour_out_of_turn(self):
        for turns in (";W[aa]", ";W[]", ";B[aa];B[bb]", ";B[];B[]", ";B[aa];W[bb];W[cc]", ";B[aa];W[];W[cc]",
                      ";W[aa];B[bb]", ";b[aa]", ";B[aa];w[bb]", ";AB[aa]", ";AW[aa]", ";C[aa]", ";BB[aa]", ";[aa]"):
            self.check_none(HEAD + turns + ")")

    def test_capital_letters(self):
        for letters in ("AA", "Aa", "aA", "BC"):
            self.check_none(f"{HEAD};B[{letters}])")

    def test_letters_that_are_no_point_of_the_board(self):
        for n in range(2, 20):
            last, behind = chr(96 + n), chr(97 + n)
            self.assertEqual(loaded(f"(;FF[4]GM[1]SZ[{n}];B[{last}{last}])"), [1])
            for letters in ("a" + behind, behind + "a", behind + behind, last + behind, behind + last):
                self.check_none(f"(;FF[4]GM[1]SZ[{n}];B[{letters}])")
        self.check_none("(;FF[4]GM[1]SZ[19];B[tt])")
        self.check_none("(;FF[4]GM[1]SZ[19];B[zz])")

    def test_other_signs_between_the_brackets(self):
        for signs in ("a", "aaa", "aaaa", "a]", "[aa", " ", "  ", " aa", "aa ", "a a", "11", "`a", "a`", "{a", "\0\0", "\xe1a",
                      "aa][bb", "aa];C[x"):
            self.check_none(f"{HEAD};B[{signs}])")

    def test_signs_between_the_turns(self):
        for between in (" ", "\n", ";", ";;", ")", "(", ");("):
            self.check_none(f"{HEAD};B[aa]{between};W[bb])")
            self.check_none(f"{HEAD}{between};B[aa])")
            self.check_none(f"{HEAD};B[aa]{between})")

    def test_other_bytes(self):
        for signs in ([0], [255], [0] * 8192, [255] * 8192, [40], [41], [40, 59], [40] * 8192):
            self.check_none(signs)

    def test_x_comes_before_y(self):
        view = last_view(begin(3), load(HEAD + ";B[ba];W[ae])"))
        self.assertEqual(view["points"], picture(".X... ..... ..... ..... O...."))

    def test_longer_than_8192(self):
        # More than a list of bytes may have; told as the words say.
        self.assertEqual(ask(begin(3), play(1, 1), load([40] * 8193), UNDO), [[0], [0], [-2], [0]])


class TurnsThatCanNotBeTaken(unittest.TestCase):
    def check(self, n, turns, asked):
        self.assertEqual(loaded(record(n, turns)), [asked], turns)

    def test_passes(self):
        self.check(5, [PASS], 1)
        self.check(5, [PASS, PASS], 2)
        self.check(5, [play(0, 0), PASS, PASS], 3)
        self.check(5, [PASS, play(0, 0), PASS, play(1, 1), PASS, PASS], 6)

    def test_turns_behind_two_passes(self):
        self.check(5, [PASS, PASS, PASS], -103)
        self.check(5, [PASS, PASS, play(0, 0)], -103)
        self.check(5, [PASS, PASS, PASS, PASS, PASS], -103)
        self.check(5, [play(0, 0), PASS, PASS, play(1, 1), play(2, 2)], -104)
        self.check(5, [play(0, 0), play(1, 1), PASS, PASS, play(0, 0)], -105)

    def test_a_turn_on_a_stone(self):
        self.check(5, [play(2, 2), play(2, 2)], -102)
        self.check(5, [play(2, 2), play(1, 1), play(2, 2)], -103)
        self.check(5, [play(2, 2), PASS, play(2, 2), play(0, 0)], -103)

    def test_a_turn_without_liberty(self):
        turns = drawn(".O. O.. ...", 1)
        self.check(3, turns + [play(0, 0)], -100 - len(turns) - 1)
        self.check(3, turns + [play(0, 0), play(1, 1)], -100 - len(turns) - 1)
        self.check(3, turns + [play(1, 1), play(0, 0)], len(turns) + 2)

    def test_a_turn_that_brings_a_board_twice(self):
        self.check(4, KO, 8)
        self.check(4, KO + [play(2, 1)], -109)
        self.check(4, KO + [play(0, 3), play(3, 3), play(2, 1)], 11)
        self.check(4, KO + [play(0, 3), play(3, 3), play(2, 1), play(1, 1)], -112)
        turns = [play(0, 0), play(1, 0), play(0, 1), play(1, 1), play(0, 0), play(0, 1), play(0, 0)]
        self.check(2, turns[:6], 6)
        self.check(2, turns, -107)

    def test_the_first_turn_that_can_not_be_taken_is_told(self):
        self.check(5, [play(0, 0), play(0, 0), play(0, 0), play(0, 0)], -102)
        self.check(5, [play(0, 0), play(1, 1), play(0, 0), PASS, PASS, PASS], -103)

    def test_no_record_comes_first(self):
        twice = HEAD + ";B[aa];W[aa]"
        self.assertEqual(loaded(twice + ")"), [-102])
        for behind in ("", ";B[ab]", ";W[ab])", ";B[af])", ";B[fa])", ";B[AA])", ")\n", "))", ";B[ab];W[ac];W[ad])"):
            self.assertEqual(loaded(twice + behind), [-1], behind)
        self.assertEqual(loaded(HEAD + ";B[];W[];B[];W[];W[])"), [-1])
        long = record(19, long_game() + [play(18, 17)])
        self.assertEqual(loaded(long), [-1125])
        self.assertEqual(loaded(long[:-1]), [-1])
        self.assertEqual(loaded(long[:-1] + ";W[aa])"), [-1125])
        self.assertEqual(loaded(long[:-1] + ";B[aa])"), [-1])
        self.assertEqual(loaded(long[:-1] + ";W[at])"), [-1])

    def test_1024_turns_and_more(self):
        game = long_game()
        self.check(19, game[:1023], 1023)
        self.check(19, game, 1024)
        self.check(19, game + [play(18, 17)], -1125)
        self.check(19, game + [PASS], -1125)
        self.check(19, game + [PASS, PASS, PASS], -1125)
        self.check(19, game + [play(0, 0)] * 300, -1125)
        self.check(19, game[:1022] + [PASS, PASS], 1024)
        self.check(19, game[:1022] + [PASS, PASS, PASS], -1125)

    def test_a_refused_load_leaves_the_game_as_it_was(self):
        ahead = [begin(4), *KO]
        wrong = [[], HEAD, record(4, [PASS, PASS, PASS]), record(5, [play(0, 0), play(0, 0)]), HEAD + ";W[aa])",
                 "(;FF[4]GM[1]SZ[20])", record(19, long_game() + [PASS])]
        behind = [BOARD, AREA, LIVES, group(1, 1), save(8192), play(2, 1), play(4, 0), play(3, 3), UNDO, UNDO,
                  play(1, 1), BOARD]
        asked = ask(*ahead, *behind)[len(ahead):]
        self.assertEqual(asked[5:8], [[-7], [-2], [0]])
        for text in wrong:
            given = ask(*ahead, load(text), *behind)[len(ahead):]
            self.assertLess(given[0][0], 0)
            self.assertEqual(given[1:], asked, text)

    def test_a_refused_load_behind_a_load(self):
        given = ask(begin(9), load(GAME), BOARD, load(GAME + " "), BOARD, load(record(3, [PASS] * 3)), BOARD)
        self.assertEqual([given[3], given[5]], [[-1], [-103]])
        self.assertEqual([given[4], given[6]], [given[2], given[2]])

    def test_a_record_of_8192_bytes(self):
        games = [full_game(random.Random(seed), 5) for seed in range(7)]
        turns = next(calls for calls in games if calls is not None)[1:]
        size = len(record(5, turns))
        self.assertEqual(loaded(record(5, turns)), [1024])
        # Turns behind the last that can be taken: plays, and one pass where that's needed to come to 8192.
        while size < 8192:
            turns = turns + [PASS if (8192 - size) % 6 else play(0, 0)]
            size = len(record(5, turns))
        self.assertEqual(size, 8192)
        self.assertEqual(loaded(record(5, turns)), [-1125])
        self.assertEqual(loaded(record(5, turns)[:-1] + "]"), [-1])
        self.assertEqual(loaded(record(9, [PASS] * 2042 + [play(0, 0)])), [-103])
        self.assertEqual(len(record(9, [PASS] * 2042 + [play(0, 0)])), 8192)


class TheGameBehindALoad(unittest.TestCase):
    """After a load the game is the record's, as if its turns had been taken one by one."""

    def check_same(self, n, turns, *behind):
        played = ask(begin(n), *turns, *behind)[1 + len(turns):]
        for ahead in ([begin(n)], [begin(2), play(0, 0)], [begin(19), play(3, 3), PASS, PASS], [begin(7), UNDO]):
            given = ask(*ahead, load(record(n, turns)), *behind)[len(ahead):]
            self.assertEqual(given[0], [len(turns)])
            self.assertEqual(given[1:], played, ahead)
        return played

    def test_the_board_is_the_record_s(self):
        view = last_view(begin(9), play(8, 8), load(GAME))
        self.assertEqual(view, {"turns": 5, "points": picture(".X... X.... ..... ..... ....X"), "turn": 2, "end": 0,
                                "black": 0, "white": 1})

    def test_the_empty_record(self):
        self.assertEqual(ask(begin(9), play(1, 1), load(HEAD + ")"), BOARD, UNDO, play(4, 4), play(5, 0))[2:],
                         [[0], [0] * 362 + [1, 0, 0, 0], [-3], [0], [-2]])

    def test_the_size_is_the_record_s(self):
        given = first_numbers(begin(3), load(record(19, [])), play(18, 18), group(18, 18), load(record(2, [])),
                              play(2, 0), play(1, 1), group(2, 2), group(1, 1))
        self.assertEqual(given, [0, 0, 0, 1, 0, -2, 0, -2, 1])

    def test_all_calls_go_on_from_it(self):
        turns = [play(1, 0), play(0, 0), play(0, 1), PASS, play(4, 4)]
        behind = [BOARD, AREA, LIVES, group(1, 0), group(0, 0), save(8192), play(0, 0), play(3, 4), BOARD, UNDO, UNDO,
                  UNDO, UNDO, BOARD, save(8192), UNDO, UNDO, UNDO, BOARD, save(8192)]
        self.check_same(5, turns, *behind)

    def test_stones_taken_off_come_back(self):
        turns = [play(1, 0), play(0, 0), play(0, 1)]
        view = last_view(begin(2), load(record(5, turns)), UNDO)
        self.assertEqual(view["points"], picture("OX... ..... ..... ..... ....."))
        self.assertEqual((view["turns"], view["black"], view["white"]), (2, 0, 0))
        self.check_same(19, long_game()[:721], BOARD, UNDO, BOARD, UNDO, BOARD)

    def test_the_boards_that_were_there_before_are_known(self):
        played = self.check_same(4, KO, play(2, 1), play(0, 3), play(3, 3), play(2, 1), play(1, 1), BOARD)
        self.assertEqual(played[:5], [[-7], [0], [0], [0], [-7]])
        turns = [play(0, 0), play(1, 0), play(0, 1), play(1, 1), play(0, 0), play(0, 1)]
        played = self.check_same(2, turns, play(0, 0), UNDO, UNDO, play(0, 0), play(0, 1), play(0, 0))
        self.assertEqual(played, [[-7], [0], [0], [0], [0], [-7]])

    def test_the_boards_of_the_game_before_are_forgotten(self):
        # The same turns once more bring the same boards, in a game where they weren't yet.
        given = first_numbers(begin(4), *KO, load(record(4, [])), *KO, play(2, 1), load(record(4, KO[:-1])), KO[-1])
        self.assertEqual(given, [0] * 9 + [0] + [0] * 8 + [-7, 7, 0])
        given = first_numbers(begin(4), play(0, 0), load(record(4, [])), play(1, 1), play(3, 3), play(0, 0))
        self.assertEqual(given, [0] * 6)

    def test_the_turns_of_the_game_before_are_forgotten(self):
        self.assertEqual(first_numbers(begin(4), play(0, 0), PASS, load(record(4, [])), UNDO), [0, 0, 0, 0, -3])
        self.assertEqual(first_numbers(begin(4), PASS, load(record(4, [])), PASS, BOARD)[-2:], [0, 1])
        self.assertEqual(last_view(begin(4), PASS, load(record(4, [])), PASS)["end"], 0)
        given = ask(begin(19), *long_game(), load(record(19, [])), play(0, 0), BOARD)
        self.assertEqual([given[-2], given[-1][0]], [[0], 1])

    def test_the_end(self):
        played = self.check_same(4, [play(0, 0), PASS, PASS], BOARD, play(1, 1), PASS, UNDO, play(1, 1), BOARD)
        self.assertEqual(played[0][362:], [2, 1, 0, 0])
        self.assertEqual(played[1:5], [[-3], [-3], [0], [0]])
        # A pass behind a record that has one as its last turn is the second.
        self.assertEqual(last_view(begin(4), load(record(4, [play(0, 0), PASS])), PASS)["end"], 1)

    def test_a_load_where_the_game_is_at_its_end(self):
        self.assertEqual(first_numbers(begin(5), PASS, PASS, load(GAME), play(3, 3)), [0, 0, 0, 5, 0])

    def test_1024_turns(self):
        played = self.check_same(19, long_game(), play(18, 17), PASS, UNDO, play(18, 17), play(18, 16), PASS, BOARD)
        self.assertEqual(played[:6], [[-4], [-4], [0], [0], [-4], [-4]])

    def test_several_loads_in_a_line(self):
        given = ask(begin(3), load(GAME), BOARD, load(record(19, [play(18, 18)])), BOARD, load(GAME), BOARD,
                    load(GAME), BOARD, play(2, 2), load(GAME), BOARD)
        self.assertEqual([given[k][0] for k in (1, 3, 5, 7, 10)], [5, 1, 5, 5, 5])
        self.assertEqual(given[4][361], 1)
        self.assertEqual([given[6], given[8], given[11]], [given[2]] * 3)

    def test_the_calls_behind_the_bytes_are_found(self):
        # Bytes that could be calls are none; the call behind them is one.
        self.assertEqual(ask(begin(3), [8, 4, 1, 2, 3, 4], [8, 0], [8, 1, 8], play(0, 0), [8, 2, 0, 3], UNDO, UNDO),
                         [[0], [-1], [-1], [-1], [0], [-1], [0], [-3]])

    def test_a_stone_taken_off_in_the_record_is_played_again(self):
        self.assertEqual(after(".X.. X... .... ....", 2, load(record(4, [play(1, 0), play(0, 0), play(0, 1), PASS])),
                               play(0, 0), group(0, 0)), [[4], [0], [1, 3, 3]])


if __name__ == "__main__":
    unittest.main()
