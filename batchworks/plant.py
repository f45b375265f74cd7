"""The works' text: stuffs, vessels and units, and what steps take, give and do."""

from batchworks.recipes import read_book
from batchworks.refusals import WrongWorks
from batchworks.spots import is_recipe_right
from batchworks.words import is_name, is_number, line_of, lines_of

# For each form what its names stand for, and the most that its numbers may be.
NAMES = {
    "stuff": ("stuff",),
    "vessel": ("vessel",),
    "unit": ("unit",),
    "claim": ("recipe", "unit"),
    "take": ("step", "unit"),
    "give": ("step", "unit"),
    "charge": ("step", "vessel", "stuff"),
    "pour": ("step", "vessel", "vessel"),
    "empty": ("step", "vessel", "vessel"),
    "turn": ("step", "vessel", "stuff", "stuff"),
    "ship": ("step", "vessel"),
}
NUMBERS = {
    "stuff": (),
    "vessel": (1000000,),
    "unit": (99,),
    "claim": (99,),
    "take": (99,),
    "give": (99,),
    "charge": (1000000,),
    "pour": (1000000,),
    "empty": (),
    "turn": (1000, 1000),
    "ship": (),
}
MOST_TOLD = {"stuff": 12, "vessel": 12, "unit": 6}
MOST_PAIRS = 60
MOST_DOINGS = 60


# Names lead to numbers; sizes are lists by these numbers (a stuff has none, so its are 0). The
# pairs of claim, take and give are numbers too. A doing is its word, the numbers of its names
# and its own numbers. Lines are kept as they are shown, all forms of doings together.
class Plant:

    def __init__(self, book):
        self.book = book
        self.told = {"recipe": book.recipes, "step": book.steps, "condition": book.conditions,
                     "stuff": {}, "vessel": {}, "unit": {}}
        self.sizes = {"stuff": [], "vessel": [], "unit": []}
        self.pairs = {"claim": {}, "take": {}, "give": {}}
        self.doings = []
        self.lines = {"stuff": [], "vessel": [], "unit": [], "claim": [], "take": [], "give": [], "doing": []}

    # What a claim, take or give tells, unit by unit, of this recipe or step.
    def amounts(self, word, number):
        pairs = self.pairs[word]
        return tuple([pairs.get((number, unit), 0) for unit in range(len(self.told["unit"]))])

    def nothing(self):
        return (0,) * len(self.sizes["unit"])

    def numbers_of(self, word, names):
        return tuple([self.told[what][name] for what, name in zip(NAMES[word], names)])

    # Names stand in the order of their numbers.
    def name_of(self, what, number):
        return list(self.told[what])[number]

    def are_told(self, word, names):
        return all([name in self.told[what] for what, name in zip(NAMES[word], names)])


def names_in(words):
    return words[1:1 + len(NAMES[words[0]])]


def numbers_in(words):
    return words[1 + len(NAMES[words[0]]):]


def is_formed(words):
    if words[0] not in NAMES:
        return False
    if len(words) != 1 + len(NAMES[words[0]]) + len(NUMBERS[words[0]]):
        return False
    if not all([is_name(name) for name in names_in(words)]):
        return False
    numbers = numbers_in(words)
    if not all([is_number(number, 1, most) for number, most in zip(numbers, NUMBERS[words[0]])]):
        return False
    return words[0] != "turn" or int(numbers[0]) <= int(numbers[1])


# These tell the first kind that a well formed line has, or 0 where it is right.
def kind_of_new(plant, word, name):
    if name in plant.told[word]:
        return 2
    if len(plant.told[word]) == MOST_TOLD[word]:
        return 5
    return 0


def kind_of_pair(plant, word, names):
    if not plant.are_told(word, names):
        return 3
    if plant.numbers_of(word, names) in plant.pairs[word]:
        return 2
    if len(plant.pairs[word]) == MOST_PAIRS:
        return 5
    return 0


def kind_of_doing(plant, word, names):
    if not plant.are_told(word, names):
        return 3
    if word in ("pour", "empty", "turn") and names[-2] == names[-1]:
        return 4
    if len(plant.doings) == MOST_DOINGS:
        return 5
    return 0


def kind_of_line(plant, words):
    if not is_formed(words):
        return 1
    names = names_in(words)
    if words[0] in plant.sizes:
        return kind_of_new(plant, words[0], names[0])
    if words[0] in plant.pairs:
        return kind_of_pair(plant, words[0], names)
    return kind_of_doing(plant, words[0], names)


def take_line(plant, words):
    word = words[0]
    names = names_in(words)
    numbers = [int(number) for number in numbers_in(words)]
    plant.lines[word if word in plant.lines else "doing"].append(line_of(words))
    if word in plant.sizes:
        plant.told[word][names[0]] = len(plant.told[word])
        plant.sizes[word].append(sum(numbers))
    elif word in plant.pairs:
        plant.pairs[word][plant.numbers_of(word, names)] = numbers[0]
    else:
        plant.doings.append((word, plant.numbers_of(word, names), tuple(numbers)))


def read_plant(recipes_text, works_text):
    book = read_book(recipes_text)
    plant = Plant(book)
    for line, words in lines_of(works_text):
        kind = kind_of_line(plant, words)
        if kind > 0:
            raise WrongWorks(line, kind)
        take_line(plant, words)
    if book.has_either:
        raise WrongWorks(0, 6)
    for recipe in range(len(book.recipes)):
        if not is_recipe_right(plant, recipe):
            raise WrongWorks(0, 7)
    return plant
