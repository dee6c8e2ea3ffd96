"""What the tests share: calls as numbers, answers one by one, a slow second game."""

from stonesgame.board import answers


def begin(n):
    return [0, n]


def play(x, y):
    return [1, x, y]


PASS = [2]
UNDO = [3]
BOARD = [4]


def joined(calls):
    """Calls as lists of numbers, put into the one list that is handed in."""
    return [number for call in calls for number in call]


def split(given):
    """The list that is given back, taken apart into one list for each call."""
    parts = []
    place = 0
    while place < len(given):
        count = given[place]
        part = given[place + 1:place + 1 + count]
        if count < 1 or len(part) != count:
            raise AssertionError(f"a count of {count} at {place} of {len(given)}")
        parts.append(part)
        place += 1 + count
    return parts


def ask(*calls):
    """What each call answers, as one list for each."""
    return split(answers(joined(calls)))


def first_numbers(*calls):
    """The first number that each call answers."""
    return [part[0] for part in ask(*calls)]


def view(part):
    """What board answers, by names, with the points as they are handed back."""
    if len(part) != 366:
        raise AssertionError(f"board answers {len(part)} numbers")
    return {"turns": part[0], "points": part[1:362], "turn": part[362],
            "end": part[363], "black": part[364], "white": part[365]}


def last_view(*calls):
    """The board behind the calls."""
    return view(ask(*calls, BOARD)[-1])


def picture(text):
    """361 points of a drawn board: X black, O white, . empty, a word each row."""
    signs = "".join(text.split())
    return [".XO".index(sign) for sign in signs] + [0] * (361 - len(signs))


def drawn(text, first):
    """Calls that lead to a drawn board, nothing taken off, with first to play.

    Both colours' stones are played in turn; who has none left passes.
    """
    places = {1: [], 2: []}
    for y, row in enumerate(text.split()):
        for x, sign in enumerate(row):
            if sign != ".":
                places[".XO".index(sign)].append((x, y))
    calls = []
    colour = 1
    while places[1] or places[2]:
        calls.append(play(*places[colour].pop(0)) if places[colour] else PASS)
        colour = 3 - colour
    if colour != first:
        calls.append(PASS)
    check_drawn(text, calls)
    return calls


def check_drawn(text, calls):
    """Fail where the calls don't lead to the drawn board."""
    game = SlowGame(len(text.split()))
    if any(game.answer(call) != [0] for call in calls) or game.board()[1:362] != picture(text):
        raise AssertionError(f"this can't be drawn: {text}")


class SlowGame:
    """The rules once more, as the words tell them and with no thought of time.

    It keeps every board that there was, and looks at all chains at each turn.
    """

    def __init__(self, n):
        self.n = n
        self.boards = [{}]
        self.taken = [(0, 0)]
        self.turns = []

    def on_board(self, place):
        return place[0] in range(self.n) and place[1] in range(self.n)

    def beside(self, place):
        x, y = place
        steps = [(x, y - 1), (x - 1, y), (x + 1, y), (x, y + 1)]
        return {step for step in steps if self.on_board(step)}

    def chain(self, board, place):
        chain = {place}
        while True:
            wider = {step for stone in chain for step in self.beside(stone)
                     if board.get(step) == board[place]}
            if wider <= chain:
                return chain
            chain |= wider

    def liberties(self, board, chain):
        return {step for stone in chain for step in self.beside(stone) if step not in board}

    def without_room(self, board, colour):
        """All stones of a colour, anywhere, whose chains have no liberty."""
        gone = set()
        seen = set()
        for place in board:
            if board[place] == colour and place not in seen:
                chain = self.chain(board, place)
                seen |= chain
                if not self.liberties(board, chain):
                    gone |= chain
        return gone

    def colour(self):
        return 1 + len(self.turns) % 2

    def at_end(self):
        return len(self.turns) >= 2 and self.turns[-2:] == [None, None]

    def take_turn(self, place):
        if place is not None and not self.on_board(place):
            return -2
        if self.at_end():
            return -3
        if len(self.turns) >= 1024:
            return -4
        board = dict(self.boards[-1])
        taken = list(self.taken[-1])
        if place is not None:
            if place in board:
                return -5
            colour = self.colour()
            board[place] = colour
            gone = self.without_room(board, 3 - colour)
            board = {stone: board[stone] for stone in board if stone not in gone}
            taken[2 - colour] += len(gone)
            if not self.liberties(board, self.chain(board, place)):
                return -6
            if board in self.boards:
                return -7
        self.boards.append(board)
        self.taken.append(tuple(taken))
        self.turns.append(place)
        return 0

    def undo(self):
        if not self.turns:
            return -3
        self.turns.pop()
        self.boards.pop()
        self.taken.pop()
        return 0

    def board(self):
        board = self.boards[-1]
        points = [board.get((x, y), 0) for y in range(self.n) for x in range(self.n)]
        points += [0] * (361 - len(points))
        end = 1 if self.at_end() else 0
        return [len(self.turns), *points, self.colour(), end, *self.taken[-1]]

    def answer(self, call):
        if call[0] == 1:
            return [self.take_turn((call[1], call[2]))]
        if call[0] == 2:
            return [self.take_turn(None)]
        if call[0] == 3:
            return [self.undo()]
        return self.board()


def slow_answers(calls):
    """What a list of whole calls, begin first, answers by the slow game."""
    n = calls[0][1]
    if n not in range(2, 20):
        return [[-2]]
    game = SlowGame(n)
    return [[0]] + [game.answer(call) for call in calls[1:]]


def place_of(number):
    """The point with that number, row by row, on the board of 19."""
    return number % 19, number // 19


def long_game():
    """1024 turns on the board of 19, as calls, no two passes one behind the other.

    White fills all points but the last while black passes; black takes all 360
    stones off with a stone there; then white fills the points 1 to 152, all
    round the corner at 0, while black passes.
    """
    calls = []
    for number in range(360):
        calls += [PASS, play(*place_of(number))]
    calls.append(play(18, 18))
    for number in range(1, 153):
        calls += [play(*place_of(number)), PASS]
    return calls[:1024]
