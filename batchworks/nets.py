"""The nets of recipes: places and moves, numbered as the recipes tell them."""


# Its kind is silent, step, yes or no; its number is that of the step or of the condition.
class Move:

    def __init__(self, kind, number, before, behind):
        self.kind = kind
        self.number = number
        self.before = before
        self.behind = behind


# Lays the moves of a recipe that has no either. A recipe has few things, so its parts may be
# gone through by calls within one another.
class Layer:

    def __init__(self, book):
        self.book = book
        self.moves = []
        self.places = 2

    def new_places(self, how_many):
        first = self.places
        self.places += how_many
        return first

    def add_move(self, kind, number, before, behind):
        self.moves.append(Move(kind, number, before, behind))

    # Items hang to the left: the place in front of the last item is told first.
    def lay_body(self, body, start, goal):
        if len(body) == 0:
            self.add_move("silent", 0, (start,), (goal,))
            return
        between = len(body) - 1
        first = self.new_places(between)
        stops = [first + between - 1 - k for k in range(between)] + [goal]
        here = start
        for part, stop in zip(body, stops):
            self.lay_part(part, here, stop)
            here = stop

    def lay_part(self, part, start, goal):
        if part.word == "do":
            self.add_move("step", part.number, (start,), (goal,))
        elif part.word == "use":
            self.lay_body(self.book.parts[part.number].bodies[0], start, goal)
        elif part.word == "if":
            self.lay_if(part, start, goal)
        elif part.word == "both":
            self.lay_both(part.bodies, start, goal)
        else:
            self.lay_again(part, start, goal)

    def lay_if(self, part, start, goal):
        first = self.new_places(2)
        self.add_move("yes", part.number, (start,), (first,))
        self.add_move("no", part.number, (start,), (first + 1,))
        self.lay_body(part.bodies[0], first, goal)
        self.lay_body(part.bodies[1], first + 1, goal)

    # Three and more bodies are both of all but the last, and the last.
    def lay_both(self, bodies, start, goal):
        first = self.new_places(4)
        self.add_move("silent", 0, (start,), (first, first + 1))
        if len(bodies) > 2:
            self.lay_both(bodies[:-1], first, first + 2)
        else:
            self.lay_body(bodies[0], first, first + 2)
        self.lay_body(bodies[-1], first + 1, first + 3)
        self.add_move("silent", 0, (first + 2, first + 3), (goal,))

    def lay_again(self, part, start, goal):
        first = self.new_places(2)
        self.add_move("silent", 0, (start,), (first,))
        self.lay_body(part.bodies[0], first, first + 1)
        self.add_move("no", part.number, (first + 1,), (first,))
        self.add_move("yes", part.number, (first + 1,), (goal,))


# The moves of a recipe, from place 0 to place 1.
def net_of(book, recipe):
    layer = Layer(book)
    layer.lay_body(book.parts[recipe].bodies[0], 0, 1)
    return layer.moves
