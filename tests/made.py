"""Many games and positions for the tests, made by counting on from a seed, so that each run has the same ones."""

from skewer.syntax import Board, Game
from tests.games import capture, either, ring_of, step_to, walk

STEPS = ("go", "go", "go", "go", "go", "go", "empty", "own", "foe", "at", "take", "take", "lay", "rest")
FORMS = ("row", "row", "either", "either", "either", "any", "any")
TESTS = ("lacks", "foelacks", "holds", "foeholds", "stuck", "few")


class Maker:
    """Makes numbers, and out of these whatever is asked for."""

    def __init__(self, seed):
        self.state = seed

    def below(self, limit):
        self.state = (self.state * 1103515245 + 12345) % 2147483648
        return (self.state >> 8) % limit

    def one_of(self, items):
        return items[self.below(len(items))]

    def leads(self, size):
        return [-1 if self.below(6) == 0 else self.below(size) for _ in range(size)]

    def program(self, ways, kinds, depth):
        """A program with few parts, nested at most so deep."""
        if depth == 1 or self.below(5) == 0:
            return self.step(ways, kinds)
        form = self.one_of(FORMS)
        if form == "any":
            return ("any", self.program(ways, kinds, depth - 1))
        return (form, [self.program(ways, kinds, depth - 1) for _ in range((self.below(8) + 1) // 2)])

    def moving(self, ways, kinds, depth):
        """A program; every other one goes on, and takes, by which there are more moves than otherwise."""
        program = self.program(ways, kinds, depth)
        if self.below(2) == 0:
            return program
        roam = ("either", [("go", self.below(ways)), ("row", [("go", self.below(ways)), self.program(ways, kinds, 2)])])
        stop = ("either", [("empty",), ("row", [("foe",), ("take",)]), program])
        return ("row", [("any", roam) if self.below(2) == 0 else roam, stop])

    def step(self, ways, kinds):
        word = self.one_of(STEPS)
        if word == "go":
            return ("go", self.below(ways))
        return (word, self.below(kinds)) if word in ("at", "lay") else (word,)

    def condition(self, size, kinds, depth):
        if depth > 1 and self.below(2) == 0:
            word = self.one_of(("not", "and", "or"))
            inner = [self.condition(size, kinds, depth - 1) for _ in range(1 if word == "not" else 2)]
            return (word, *inner)
        word = self.one_of(TESTS)
        if word == "stuck":
            return ("stuck",)
        if word == "few":
            return ("few", self.below(size + 2))
        if word in ("lacks", "foelacks"):
            return (word, self.below(kinds))
        fields = [field for field in range(size) if self.below(2) == 0]
        return (word, self.below(kinds), fields or [self.below(size)])

    def game(self, size, ways=2, kinds=2, depth=4):
        board = Board(size, [("way" + "abcdefgh"[at], self.leads(size)) for at in range(ways)])
        results = ("won", "lost", "drawn")
        clauses = [(self.condition(size, kinds, 3), self.one_of(results)) for _ in range(self.below(3))]
        pairs = [(self.moving(ways, kinds, depth), self.moving(ways, kinds, depth)) for _ in range(kinds)]
        return Game(board, ["man", "king", "rook", "imp", "fox", "hen"][:kinds], clauses, pairs)

    def position(self, game):
        """A position with men on about half of the fields."""
        most = 2 * len(game.kinds)
        men = [1 + self.below(most) if self.below(2) == 0 else 0 for _ in range(game.board.size)]
        return (self.below(2), tuple(men))


def made_games(seed, number):
    """So many games with two to five fields, one to three ways and one to three kinds."""
    maker = Maker(seed)
    sizes = [(2 + maker.below(4), 1 + maker.below(3), 1 + maker.below(3)) for _ in range(number)]
    return [maker.game(size, ways, kinds) for size, ways, kinds in sizes]


def small_rings(maker, number):
    """So many games on rings of three to five fields, in which play can be longer than in other made games."""
    steps = (walk(0, 1), walk(0), walk(1), step_to(0), capture(1), either(step_to(0), step_to(1)))
    games = []
    for _ in range(number):
        size = 3 + maker.below(3)
        pairs = [(maker.one_of(steps), maker.one_of(steps)) for _ in range(1 + maker.below(2))]
        clauses = [(maker.condition(size, len(pairs), 2), maker.one_of(("won", "won", "lost", "drawn")))
                   for _ in range(maker.below(3))]
        games.append(ring_of(size, pairs, clauses))
    return games
