"""What the tests share: calls as numbers, answers one by one, a slow second game."""

import re

from stonesgame.board import answers


def begin(n):
    return [0, n]


def play(x, y):
    return [1, x, y]


PASS = [2]
UNDO = [3]
BOARD = [4]


def group(x, y):
    return [5, x, y]


AREA = [6]
LIVES = [7]


def load(record):
    """A load of a record that is told as a text or as a list of bytes."""
    signs = list(record.encode("latin-1")) if isinstance(record, str) else list(record)
    return [8, len(signs), *signs]


def save(most):
    return [9, most]


def record(n, turns):
    """The record of turns that are told as calls, black's first."""
    text = f"(;FF[4]GM[1]SZ[{n}]"
    for k, turn in enumerate(turns):
        place = "" if turn == PASS else chr(97 + turn[1]) + chr(97 + turn[2])
        text += f";{'BW'[k % 2]}[{place}]"
    return text + ")"


def joined(calls):
    """Calls as lists of numbers, put into the one list that is handed in."""
    return [number for call in calls for number in call]


def split(given):
    """The list that is given back, taken apart into one list for each call."""
    parts = []
    place = 0
    while place < len(given):
        count = given[place]
        part = given[place + 1:place + 1 + count]
        if count < 1 or len(part) != count:
            raise AssertionError(f"a count of {count} at {place} of {len(given)}")
        parts.append(part)
        place += 1 + count
    return parts


def ask(*calls):
    """What each call answers, as one list for each."""
    return split(answers(joined(calls)))


def first_numbers(*calls):
    """The first number that each call answers."""
    return [part[0] for part in ask(*calls)]


def view(part):
    """What board answers, by names, with the points as they are handed back."""
    if len(part) != 366:
        raise AssertionError(f"board answers {len(part)} numbers")
    return {"turns": part[0], "points": part[1:362], "turn": part[362],
            "end": part[363], "black": part[364], "white": part[365]}


def last_view(*calls):
    """The board behind the calls."""
    return view(ask(*calls, BOARD)[-1])


def picture(text):
    """361 points of a drawn board: X black, O white, . empty, a word each row."""
    signs = "".join(text.split())
    return [".XO".index(sign) for sign in signs] + [0] * (361 - len(signs))


def drawn(text, first):
    """Calls that lead to a drawn board, nothing taken off, with first to play.

    Both colours' stones are played in turn; who has none left passes.
    """
    places = {1: [], 2: []}
    for y, row in enumerate(text.split()):
        for x, sign in enumerate(row):
            if sign != ".":
                places[".XO".index(sign)].append((x, y))
    calls = []
    colour = 1
    while places[1] or places[2]:
        calls.append(play(*places[colour].pop(0)) if places[colour] else PASS)
        colour = 3 - colour
    if colour != first:
        calls.append(PASS)
    check_drawn(text, calls)
    return calls


def after(text, first, *calls):
    """What the calls answer behind those that lead to a drawn board."""
    return ask(begin(len(text.split())), *drawn(text, first), *calls)[-len(calls):]


def check_drawn(text, calls):
    """Fail where the calls don't lead to the drawn board."""
    game = SlowGame(len(text.split()))
    if any(game.answer(call) != [0] for call in calls) or game.board()[1:362] != picture(text):
        raise AssertionError(f"this can't be drawn: {text}")


class SlowGame:
    """The rules once more, as the words tell them and with no thought of time.

    It keeps every board that there was, and looks at all chains at each turn.
    """

    def __init__(self, n):
        self.n = n
        self.boards = [{}]
        self.taken = [(0, 0)]
        self.turns = []

    def on_board(self, place):
        return place[0] in range(self.n) and place[1] in range(self.n)

    def beside(self, place):
        x, y = place
        steps = [(x, y - 1), (x - 1, y), (x + 1, y), (x, y + 1)]
        return {step for step in steps if self.on_board(step)}

    def chain(self, board, place):
        chain = {place}
        while True:
            wider = {step for stone in chain for step in self.beside(stone)
                     if board.get(step) == board[place]}
            if wider <= chain:
                return chain
            chain |= wider

    def liberties(self, board, chain):
        return {step for stone in chain for step in self.beside(stone) if step not in board}

    def without_room(self, board, colour):
        """All stones of a colour, anywhere, whose chains have no liberty."""
        gone = set()
        seen = set()
        for place in board:
            if board[place] == colour and place not in seen:
                chain = self.chain(board, place)
                seen |= chain
                if not self.liberties(board, chain):
                    gone |= chain
        return gone

    def colour(self):
        return 1 + len(self.turns) % 2

    def at_end(self):
        return len(self.turns) >= 2 and self.turns[-2:] == [None, None]

    def take_turn(self, place):
        if place is not None and not self.on_board(place):
            return -2
        if self.at_end():
            return -3
        if len(self.turns) >= 1024:
            return -4
        board = dict(self.boards[-1])
        taken = list(self.taken[-1])
        if place is not None:
            if place in board:
                return -5
            colour = self.colour()
            board[place] = colour
            gone = self.without_room(board, 3 - colour)
            board = {stone: board[stone] for stone in board if stone not in gone}
            taken[2 - colour] += len(gone)
            if not self.liberties(board, self.chain(board, place)):
                return -6
            if board in self.boards:
                return -7
        self.boards.append(board)
        self.taken.append(tuple(taken))
        self.turns.append(place)
        return 0

    def undo(self):
        if not self.turns:
            return -3
        self.turns.pop()
        self.boards.pop()
        self.taken.pop()
        return 0

    def board(self):
        board = self.boards[-1]
        points = [board.get((x, y), 0) for y in range(self.n) for x in range(self.n)]
        points += [0] * (361 - len(points))
        end = 1 if self.at_end() else 0
        return [len(self.turns), *points, self.colour(), end, *self.taken[-1]]

    def group(self, place):
        board = self.boards[-1]
        if not self.on_board(place):
            return [-2]
        if place not in board:
            return [0]
        chain = self.chain(board, place)
        return [board[place], len(chain), len(self.liberties(board, chain))]

    def places(self):
        return {(x, y) for x in range(self.n) for y in range(self.n)}

    def touch(self, some, others):
        """Whether a place of some lies beside one of the others."""
        return any(self.beside(place) & others for place in some)

    def parts(self, places):
        """The places, fallen apart into those that hang together."""
        parts = []
        for place in places:
            joined_parts = [part for part in parts if self.touch({place}, part)]
            parts = [part for part in parts if part not in joined_parts]
            parts.append({place}.union(*joined_parts))
        return parts

    def area(self):
        board = self.boards[-1]
        sizes = [0, 0]
        parts = self.parts(self.places() - set(board))
        for colour in (1, 2):
            own = {place for place in board if board[place] == colour}
            others = set(board) - own
            room = [part for part in parts if self.touch(part, own) and not self.touch(part, others)]
            sizes[colour - 1] = len(own) + sum(len(part) for part in room)
        return [0, *sizes]

    def vital(self, piece, chain):
        empty = piece - set(self.boards[-1])
        return len(empty) > 0 and all(self.beside(place) & chain for place in empty)

    def living(self, colour):
        """All places of a colour's stones that live."""
        own = {place for place, stone in self.boards[-1].items() if stone == colour}
        chains = self.parts(own)
        pieces = self.parts(self.places() - own)
        while True:
            out = [chain for chain in chains if sum(self.vital(piece, chain) for piece in pieces) < 2]
            if not out:
                return set().union(*chains)
            chains = [chain for chain in chains if chain not in out]
            pieces = [piece for piece in pieces if not any(self.touch(piece, chain) for chain in out)]

    def lives(self):
        living = {1: self.living(1), 2: self.living(2)}
        points = [0] * 361
        for colour in (1, 2):
            for x, y in living[colour]:
                points[y * self.n + x] = colour
        return [len(living[1]) + len(living[2]), *points]

    def load(self, signs):
        text = bytes(signs).decode("latin-1")
        match = re.fullmatch(r"\(;FF\[4\]GM\[1\]SZ\[([2-9]|1[0-9])\]((?:;[BW]\[(?:[a-s][a-s])?\])*)\)", text)
        if match is None:
            return -1
        game = SlowGame(int(match[1]))
        turns = re.findall(r";([BW])\[(.*?)\]", match[2])
        places = [(ord(letters[0]) - 97, ord(letters[1]) - 97) if letters else None for colour, letters in turns]
        if any(place is not None and not game.on_board(place) for place in places):
            return -1
        if "".join(colour for colour, letters in turns) != ("BW" * len(turns))[:len(turns)]:
            return -1
        for k, place in enumerate(places):
            if game.take_turn(place) != 0:
                return -100 - (k + 1)
        self.n, self.boards, self.taken, self.turns = game.n, game.boards, game.taken, game.turns
        return len(turns)

    def record(self):
        return record(self.n, [PASS if place is None else play(*place) for place in self.turns])

    def save(self, most):
        signs = list(self.record().encode("ascii"))
        if most not in range(8193):
            return [-2]
        return [len(signs), *signs] if len(signs) <= most else [-1]

    def answer(self, call):
        if call[0] == 1:
            return [self.take_turn((call[1], call[2]))]
        if call[0] == 2:
            return [self.take_turn(None)]
        if call[0] == 3:
            return [self.undo()]
        if call[0] == 5:
            return self.group((call[1], call[2]))
        if call[0] == 8:
            return [self.load(call[2:])]
        if call[0] == 9:
            return self.save(call[1])
        return {4: self.board, 6: self.area, 7: self.lives}[call[0]]()


def slow_answers(calls):
    """What a list of whole calls, begin first, answers by the slow game."""
    n = calls[0][1]
    if n not in range(2, 20):
        return [[-2]]
    game = SlowGame(n)
    return [[0]] + [game.answer(call) for call in calls[1:]]


def place_of(number):
    """The point with that number, row by row, on the board of 19."""
    return number % 19, number // 19


def long_game():
    """1024 turns on the board of 19, as calls, no two passes one behind the other.

    White fills all points but the last while black passes; black takes all 360
    stones off with a stone there; then white fills the points 1 to 152, all
    round the corner at 0, while black passes.
    """
    calls = []
    for number in range(360):
        calls += [PASS, play(*place_of(number))]
    calls.append(play(18, 18))
    for number in range(1, 153):
        calls += [play(*place_of(number)), PASS]
    return calls[:1024]


def full_game(dice, n):
    """Calls that take 1024 turns, or None where the game came to its end before."""
    game = SlowGame(n)
    calls = [begin(n)]
    places = [(x, y) for x in range(n) for y in range(n)]
    while len(game.turns) < 1024:
        dice.shuffle(places)
        call = next((play(*place) for place in places if game.take_turn(place) == 0), None)
        if call is None:
            game.take_turn(None)
        if game.at_end():
            return None
        calls.append(call or PASS)
    return calls
