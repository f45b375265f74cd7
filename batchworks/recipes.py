"""The recipes' text: a book of recipes, each a body of parts."""

from batchworks.refusals import WrongRecipes
from batchworks.words import is_name, is_number

MOST_RECIPES = 10
MOST_STEPS = 30
MOST_CONDITIONS = 12
MOST_TIME = 1000000
MOST_THINGS = 30
# The word that stands between two bodies of a part.
BETWEEN = {"if": "else", "either": "or", "both": "and"}


# A recipe, or an item of a body: its first word, the number of the step, condition or recipe
# that it names, and its bodies. A body is a list of parts.
class Part:

    def __init__(self, word, number, things):
        self.word = word
        self.number = number
        self.bodies = []
        self.things = things

    def count_things(self):
        self.things = sum([things_in(body) for body in self.bodies])
        if self.word == "both":
            self.things += len(self.bodies) - 1
        elif self.word != "recipe":
            self.things += 1


def things_in(body):
    if len(body) == 0:
        return 1
    return sum([part.things for part in body])


# Names of recipes, steps and conditions lead to their numbers; what is known of each stands in
# lists by these numbers.
class Book:

    def __init__(self):
        self.recipes = {}
        self.parts = []
        self.steps = {}
        self.times = []
        self.conditions = {}
        self.has_either = False

    def condition_of(self, name):
        if name not in self.conditions:
            if len(self.conditions) == MOST_CONDITIONS:
                raise WrongRecipes()
            self.conditions[name] = len(self.conditions)
        return self.conditions[name]

    # The times are None where none are told.
    def step_of(self, name, times):
        if name not in self.steps:
            if len(self.steps) == MOST_STEPS:
                raise WrongRecipes()
            self.steps[name] = len(self.steps)
            self.times.append((0, 0) if times is None else times)
        number = self.steps[name]
        if times is not None and times != self.times[number]:
            raise WrongRecipes()
        return number

    def add_recipe(self, name, part):
        if len(self.recipes) == MOST_RECIPES or part.things > MOST_THINGS:
            raise WrongRecipes()
        self.recipes[name] = part.number
        self.parts.append(part)


# Goes through the words by a stack of the parts that are not ended yet, for parts may stand
# within one another deeper than calls may.
class Reader:

    def __init__(self, words):
        self.words = words
        self.place = 0
        self.stack = []
        self.recipe_name = ""
        self.book = Book()

    def next_is(self, word):
        return self.place < len(self.words) and self.words[self.place] == word

    def next_word(self):
        if self.place == len(self.words):
            raise WrongRecipes()
        self.place += 1
        return self.words[self.place - 1]

    def next_name(self):
        word = self.next_word()
        if not is_name(word):
            raise WrongRecipes()
        return word

    def next_time(self, least):
        word = self.next_word()
        if not is_number(word, least, MOST_TIME):
            raise WrongRecipes()
        return int(word)

    def expect(self, word):
        if self.next_word() != word:
            raise WrongRecipes()

    def read_all(self):
        while self.place < len(self.words):
            if len(self.stack) == 0:
                self.begin_recipe()
            else:
                self.go_on(self.next_word())
        if len(self.stack) > 0 or len(self.book.recipes) == 0:
            raise WrongRecipes()

    def go_on(self, word):
        if word == "do":
            self.read_step()
        elif word == "use":
            self.read_use()
        elif word == "again" or word in BETWEEN:
            self.begin_part(word)
        elif word == "until":
            self.end_again()
        elif word == "end":
            self.end_part()
        else:
            self.begin_body(word)

    def begin_recipe(self):
        self.expect("recipe")
        self.recipe_name = self.next_name()
        if self.recipe_name in self.book.recipes:
            raise WrongRecipes()
        self.push(Part("recipe", len(self.book.recipes), 0))

    def read_step(self):
        name = self.next_name()
        times = None
        if self.next_is("takes"):
            self.expect("takes")
            least = self.next_time(0)
            self.expect("to")
            times = (least, self.next_time(least))
        self.add_part(Part("do", self.book.step_of(name, times), 1))

    # A recipe comes into the book when it is told whole, so none is found within itself.
    def read_use(self):
        name = self.next_name()
        if name not in self.book.recipes:
            raise WrongRecipes()
        number = self.book.recipes[name]
        self.add_part(Part("use", number, self.book.parts[number].things))

    # The number of again's condition is known only behind its body.
    def begin_part(self, word):
        number = 0
        if word == "if":
            number = self.book.condition_of(self.next_name())
            self.expect("then")
        elif word == "either":
            self.book.has_either = True
        self.push(Part(word, number, 0))

    def begin_body(self, word):
        part = self.stack[-1]
        if part.word not in BETWEEN or BETWEEN[part.word] != word:
            raise WrongRecipes()
        if part.word != "both" and len(part.bodies) == 2:
            raise WrongRecipes()
        part.bodies.append([])

    def end_again(self):
        part = self.stack[-1]
        if part.word != "again":
            raise WrongRecipes()
        part.number = self.book.condition_of(self.next_name())
        self.expect("end")
        self.put_away()

    def end_part(self):
        part = self.stack[-1]
        if part.word == "again" or (part.word in BETWEEN and len(part.bodies) < 2):
            raise WrongRecipes()
        self.put_away()

    def push(self, part):
        part.bodies.append([])
        self.stack.append(part)

    def put_away(self):
        part = self.stack.pop()
        part.count_things()
        if part.word == "recipe":
            self.book.add_recipe(self.recipe_name, part)
        else:
            self.add_part(part)

    def add_part(self, part):
        self.stack[-1].bodies[-1].append(part)


def read_book(text):
    reader = Reader(text.split())
    reader.read_all()
    return reader.book
