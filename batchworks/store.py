"""The lots and the vessels, and the doings of steps that move what is in them."""

from batchworks.amounts import lowest, rest_of
from batchworks.mixtures import is_mixture_bounded, joined, share_of, turned
from batchworks.words import line_of

MOST_DONE = 200
MOST_SHIPMENTS = 100


class Lot:

    def __init__(self, name, stuff, last):
        self.name = name
        self.stuff = stuff
        self.last = last


# How much is in a vessel is kept beside its mixture, and it's a whole number: lots are, and so is
# all that is charged, poured, emptied or shipped. So the share of a pour and what a ship sends off
# have small terms, and only the amounts within mixtures are to be watched. A shipment is what was in
# its vessel: the mixture, and how much it was.
# A step that is stuck, for one of its doings couldn't be done, leads to how many lots were over then.
class Store:

    def __init__(self, plant):
        self.plant = plant
        self.lots = []
        self.left = []
        self.mixtures = [{} for size in plant.sizes["vessel"]]
        self.wholes = [0 for size in plant.sizes["vessel"]]
        self.done = 0
        self.shipments = []
        self.lines = []
        self.stuck = {}

    def add_lot(self, name, stuff, amount, last):
        self.lots.append(Lot(name, stuff, last))
        self.left.append(amount)
        self.stuck = {}

    # In the copy the lines begin anew, and no step is stuck.
    def trial(self):
        other = Store(self.plant)
        other.lots = list(self.lots)
        other.left = list(self.left)
        other.mixtures = list(self.mixtures)
        other.wholes = list(self.wholes)
        other.done = self.done
        other.shipments = list(self.shipments)
        return other

    def lots_over(self, now):
        return len([lot for lot in self.lots if lot.last < now])

    # The store behind all doings of the step, or None if one of them can't be done. What couldn't
    # be done isn't tried again till something is done or comes, or a lot is over: the minute
    # matters to nothing else.
    def behind_step(self, step, now):
        over = self.lots_over(now)
        if self.stuck.get(step) == over:
            return None
        other = self.trial()
        if not other.do_step(step, now):
            self.stuck[step] = over
            return None
        if other.done == self.done:
            other.stuck = self.stuck
        return other

    # Where a doing can't be done this and the ones below answer False; the store is then of no
    # more use, for it may have been done in part.
    def do_step(self, step, now):
        for word, names, numbers in self.plant.doings:
            if names[0] == step and not self.do_one(word, names[1:], numbers, now):
                return False
        return True

    def do_one(self, word, names, numbers, now):
        if word == "charge":
            return self.charge(names[0], names[1], numbers[0], now)
        if word == "pour":
            return self.pour(names[0], names[1], numbers[0])
        if word == "empty":
            return self.empty(names[0], names[1])
        if word == "turn":
            return self.turn(names, numbers)
        return self.ship(names[0])

    # Each line counts as one doing, and nothing else counts.
    def write_done(self, words):
        self.lines.append(line_of(words))
        self.done += 1
        return self.done <= MOST_DONE

    def vessel_name(self, vessel):
        return self.plant.name_of("vessel", vessel)

    def fill(self, vessel, mixture, whole):
        self.mixtures[vessel] = mixture
        self.wholes[vessel] = whole
        return whole <= self.plant.sizes["vessel"][vessel] and is_mixture_bounded(mixture)

    def put_in(self, vessel, mixture, whole):
        return self.fill(vessel, joined(self.mixtures[vessel], mixture), self.wholes[vessel] + whole)

    # The lots of this stuff that may be used, used up or not, in the order in which they are drawn from.
    def lots_of(self, stuff, now):
        found = [k for k in range(len(self.lots)) if self.lots[k].stuff == stuff and now <= self.lots[k].last]
        return sorted(found, key=lambda k: (self.lots[k].last, k))

    def charge(self, vessel, stuff, amount, now):
        drawn = {}
        lacking = amount
        for k in self.lots_of(stuff, now):
            here = min(self.left[k], lacking)
            if here > 0:
                drawn[(k, stuff)] = (here, 1)
                self.left[k] -= here
                lacking -= here
                if not self.write_done(["charge", self.vessel_name(vessel), self.lots[k].name, here]):
                    return False
        return lacking == 0 and self.put_in(vessel, drawn, amount)

    def pour(self, source, goal, amount):
        there_is = self.wholes[source]
        if there_is < amount:
            return False
        share = lowest(amount, there_is)
        gone = share_of(self.mixtures[source], share)
        rest = share_of(self.mixtures[source], rest_of(share))
        if not self.fill(source, rest, there_is - amount) or not self.put_in(goal, gone, amount):
            return False
        return self.write_done(["pour", self.vessel_name(source), self.vessel_name(goal), amount])

    def empty(self, source, goal):
        if not self.put_in(goal, self.mixtures[source], self.wholes[source]):
            return False
        self.fill(source, {}, 0)
        return self.write_done(["empty", self.vessel_name(source), self.vessel_name(goal)])

    def turn(self, names, numbers):
        vessel, first, second = names
        behind = turned(self.mixtures[vessel], first, second, lowest(numbers[0], numbers[1]))
        if not self.fill(vessel, behind, self.wholes[vessel]):
            return False
        stuffs = [self.plant.name_of("stuff", first), self.plant.name_of("stuff", second)]
        return self.write_done(["turn", self.vessel_name(vessel)] + stuffs + list(numbers))

    def ship(self, vessel):
        if self.wholes[vessel] == 0:
            return True
        if len(self.shipments) == MOST_SHIPMENTS:
            return False
        number = len(self.shipments)
        self.shipments.append((self.mixtures[vessel], self.wholes[vessel]))
        self.fill(vessel, {}, 0)
        return self.write_done(["ship", self.vessel_name(vessel), number])
