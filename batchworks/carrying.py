"""A day carried out: its orders, its batches under way, and all that is written."""

from batchworks.grants import is_order_right, is_within, order_told
from batchworks.nets import net_of
from batchworks.spots import added, can_be, lessened
from batchworks.store import Store
from batchworks.words import line_of

MOST_UNDER_WAY = 8
MOST_TURNS = 4000
MOST_PASSINGS = 2000


# A judged record has no right order where one is to be written.
class WrongOrder(Exception):

    def __init__(self):
        Exception.__init__(self)


# Begun steps stand in the order of their beginnings, each as its move's number and the minute at
# which its time is over. It's counted how many steps it did and conditions it asked, both together.
class Batch:

    def __init__(self, name, moves, claimed, held):
        self.name = name
        self.moves = moves
        self.claimed = claimed
        self.held = held
        self.marked = [0]
        self.begun = []
        self.answers = {}
        self.deeds = 0

    # The moves of these kinds that can be, each with its number.
    def open_moves(self, kinds):
        found = []
        for number, move in enumerate(self.moves):
            if move.kind in kinds and can_be(move, self.marked):
                found.append((number, move))
        return found

    def unmark(self, move):
        self.marked = [place for place in self.marked if place not in move.before]

    def mark(self, move):
        self.marked = self.marked + list(move.behind)

    def make(self, move):
        self.unmark(move)
        self.mark(move)

    def is_at_its_end(self):
        return self.marked == [1] and len(self.begun) == 0


# The orders are those of a record that is judged, each the names that it tells; None where each
# order is the one that is told.
class Run:

    def __init__(self, day, orders):
        self.day = day
        self.plant = day.plant
        self.orders = orders
        self.orders_taken = 0
        self.nets = [net_of(self.plant.book, recipe) for recipe in range(len(self.plant.book.recipes))]
        self.store = Store(self.plant)
        self.free = tuple(self.plant.sizes["unit"])
        self.now = 0
        self.under_way = []
        self.finished = []
        self.lines = []

    def carry_out(self):
        for minute, word, words in self.day.orders:
            self.pass_to(minute)
            if word == "lot":
                self.take_lot(words)
            elif word == "batch":
                self.take_batch(words)
            elif word == "say":
                self.take_say(words)
            else:
                self.write([word])

    def write(self, words):
        self.lines.append(line_of([self.now] + words))

    def take_lot(self, words):
        stuff = self.plant.told["stuff"][words[1]]
        self.store.add_lot(words[0], stuff, int(words[2]), int(words[3]))
        self.write(["lot"] + list(words))
        self.go_on()

    def take_batch(self, words):
        if len(self.under_way) == MOST_UNDER_WAY:
            self.write(["refused", words[0]])
            return
        recipe = self.plant.told["recipe"][words[1]]
        batch = Batch(words[0], self.nets[recipe], self.plant.amounts("claim", recipe), self.plant.nothing())
        self.under_way.append(batch)
        self.write(["batch"] + list(words))
        self.go_on()

    def take_say(self, words):
        named = [batch for batch in self.under_way if batch.name == words[0]]
        if len(named) == 0:
            self.write(["unheard", words[0], words[1]])
            return
        named[0].answers[self.plant.book.conditions[words[1]]] = words[2]
        self.write(["say"] + list(words))
        self.go_on()

    # The minutes at which begun steps get over on the way to this one.
    def later_minutes(self, minute):
        overs = []
        for batch in self.under_way:
            overs.extend([over for number, over in batch.begun if self.now < over <= minute])
        return overs

    def pass_to(self, minute):
        passings = 0
        later = self.later_minutes(minute)
        while len(later) > 0 and passings < MOST_PASSINGS:
            self.now = min(later)
            self.go_on()
            passings += 1
            later = self.later_minutes(minute)
        self.now = max(self.now, minute)

    def go_on(self):
        turns = 0
        while turns < MOST_TURNS and self.do_first():
            turns += 1

    def do_first(self):
        for batch in list(self.under_way):
            if self.end_step(batch) or self.make_silent(batch) or self.ask(batch):
                return True
            if self.begin_step(batch) or self.finish(batch):
                return True
        return False

    def end_step(self, batch):
        for number, over in list(batch.begun):
            step = batch.moves[number].number
            store = self.store.behind_step(step, self.now) if over <= self.now else None
            if store is not None:
                given = self.plant.amounts("give", step)
                self.store = store
                self.free = added(self.free, given)
                batch.held = lessened(batch.held, given)
                batch.begun = [other for other in batch.begun if other[0] != number]
                batch.mark(batch.moves[number])
                batch.deeds += 1
                self.write(["end", batch.name, self.plant.name_of("step", step)])
                self.lines.extend(store.lines)
                return True
        return False

    def make_silent(self, batch):
        silent = batch.open_moves(("silent",))
        if len(silent) == 0:
            return False
        batch.make(silent[0][1])
        return True

    def ask(self, batch):
        for number, move in batch.open_moves(("yes", "no")):
            if batch.answers.get(move.number) == move.kind:
                batch.answers.pop(move.number)
                batch.make(move)
                batch.deeds += 1
                self.write(["ask", batch.name, self.plant.name_of("condition", move.number), move.kind])
                return True
        return False

    def begin_step(self, batch):
        for number, move in batch.open_moves(("step",)):
            taken = self.plant.amounts("take", move.number)
            order = self.order_behind(batch, taken)
            if order is not None:
                self.free = lessened(self.free, taken)
                batch.held = added(batch.held, taken)
                batch.unmark(move)
                batch.begun.append((number, self.now + self.plant.book.times[move.number][0]))
                self.write(["begin", batch.name, self.plant.name_of("step", move.number)])
                if len(order) > 0:
                    self.lines.append(line_of(["order"] + order))
                return True
        return False

    # The order with which the batch may take this: of no names where it takes nothing, and None
    # where it can't be granted.
    def order_behind(self, batch, taken):
        if sum(taken) == 0:
            return []
        if not is_within(taken, self.free):
            return None
        free = lessened(self.free, taken)
        holders = self.holders_behind(batch, taken)
        told = order_told(holders, free)
        if len(told) < len(holders):
            return None
        return told if self.orders is None else self.next_order(holders, free)

    def holders_behind(self, batch, taken):
        holders = []
        for other in self.under_way:
            held = added(other.held, taken) if other.name == batch.name else other.held
            holders.append((other.name, other.claimed, held))
        return holders

    def next_order(self, holders, free):
        if self.orders_taken == len(self.orders):
            raise WrongOrder()
        names = self.orders[self.orders_taken]
        self.orders_taken += 1
        if not is_order_right(names, holders, free):
            raise WrongOrder()
        return names

    def finish(self, batch):
        if not batch.is_at_its_end():
            return False
        self.under_way = [other for other in self.under_way if other.name != batch.name]
        self.finished.append(batch)
        self.write(["done", batch.name])
        return True


def carried_out(day):
    run = Run(day, None)
    run.carry_out()
    return run
