"""The day's text: lots that come, batches that are begun, conditions that are measured."""

from batchworks.refusals import WrongDay
from batchworks.words import is_name, is_number, lines_of

MOST_MINUTE = 100000
MOST_AMOUNT = 1000000
MOST_LOTS = 40
MOST_BATCHES = 20
MOST_ORDERS = 120
# How many words an order has, its minute and its word among them.
LENGTHS = {"lot": 6, "batch": 4, "say": 5, "till": 2}


# An order is its minute, its word, and the words behind that.
class Day:

    def __init__(self, plant):
        self.plant = plant
        self.orders = []
        self.lots = {}
        self.batches = {}

    def minute(self):
        if len(self.orders) == 0:
            return 0
        return self.orders[-1][0]


def is_minute(word):
    return is_number(word, 0, MOST_MINUTE)


def is_formed(words):
    if len(words) < 2 or words[1] not in LENGTHS or len(words) != LENGTHS[words[1]]:
        return False
    if not is_minute(words[0]) or not all([is_name(name) for name in words[2:4]]):
        return False
    if words[1] == "lot":
        return is_number(words[4], 1, MOST_AMOUNT) and is_minute(words[5])
    return words[1] != "say" or words[4] in ("yes", "no")


# These tell the first kind that a well formed line has by its names, or 0. Of a new lot or batch the
# stuff or recipe is known if it's told.
def kind_of_new(told, most, name, is_known):
    if name in told:
        return 2
    if not is_known:
        return 3
    if len(told) == most:
        return 5
    return 0


def kind_of_say(day, batch, condition):
    if batch not in day.batches or condition not in day.plant.book.conditions:
        return 3
    return 0


def kind_of_names(day, words):
    if words[1] == "lot":
        return kind_of_new(day.lots, MOST_LOTS, words[2], words[3] in day.plant.told["stuff"])
    if words[1] == "batch":
        return kind_of_new(day.batches, MOST_BATCHES, words[2], words[3] in day.plant.told["recipe"])
    if words[1] == "say":
        return kind_of_say(day, words[2], words[3])
    return 0


def kind_of_line(day, words):
    if not is_formed(words):
        return 1
    kind = kind_of_names(day, words)
    if kind > 0:
        return kind
    if int(words[0]) < day.minute():
        return 4
    if len(day.orders) == MOST_ORDERS:
        return 5
    return 0


def take_line(day, words):
    if words[1] == "lot":
        day.lots[words[2]] = len(day.lots)
    elif words[1] == "batch":
        day.batches[words[2]] = len(day.batches)
    day.orders.append((int(words[0]), words[1], tuple(words[2:])))


def read_day(plant, text):
    day = Day(plant)
    for line, words in lines_of(text):
        kind = kind_of_line(day, words)
        if kind > 0:
            raise WrongDay(line, kind)
        take_line(day, words)
    return day
