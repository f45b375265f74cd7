"""Many days, each also carried out by a second telling of the document that is as literal as can be.

The model reads right texts only. It keeps no more than it must, works everything out anew whenever
it is asked, and reckons with Fraction.
"""

import random
import unittest
from fractions import Fraction

from batchworks.plant import read_plant
from batchworks.refusals import Refusal
from batchworks.spots import spots_of
from helper import check_of, claims_of, judge_of, recall_of, record_of, report_of, shown_of, told

MOST_TERM = 10 ** 18


class Book:
    """Bodies are lists of tuples; both of three is told as both of two and the third."""

    def __init__(self, text):
        self.words = text.split()[::-1]
        self.recipes, self.times = {}, {}
        while self.words:
            assert self.words.pop() == "recipe"
            name = self.words.pop()
            self.recipes[name] = self.body()
            assert self.words.pop() == "end"

    def body(self):
        items = []
        while self.words[-1] in ("do", "if", "both", "again", "use"):
            items.append(getattr(self, "read_" + self.words.pop())())
        return items

    def read_do(self):
        step = self.words.pop()
        self.times.setdefault(step, 0)
        if self.words[-1] == "takes":
            self.times[step] = int([self.words.pop() for _ in range(4)][1])
        return ("do", step)

    def read_if(self):
        condition = self.words.pop()
        assert self.words.pop() == "then"
        first = self.body()
        assert self.words.pop() == "else"
        second = self.body()
        assert self.words.pop() == "end"
        return ("if", condition, first, second)

    def read_both(self):
        bodies = [self.body()]
        while self.words.pop() == "and":
            bodies.append(self.body())
        item = ("both", bodies[0], bodies[1])
        for body in bodies[2:]:
            item = ("both", [item], body)
        return item

    def read_again(self):
        body = self.body()
        assert self.words.pop() == "until"
        condition = self.words.pop()
        assert self.words.pop() == "end"
        return ("again", condition, body)

    def read_use(self):
        return ("use", self.recipes[self.words.pop()])


class Net:
    """Moves are their kind, their step or condition, the places before and those behind."""

    def __init__(self, body):
        self.places, self.moves = 2, []
        self.lay(body, 0, 1)

    def new(self, how_many):
        self.places += how_many
        return range(self.places - how_many, self.places)

    def move(self, kind, name, before, behind):
        self.moves.append((kind, name, set(before), set(behind)))

    def lay(self, body, start, goal):
        if not body:
            self.move("silent", None, [start], [goal])
        elif len(body) > 1:
            n, = self.new(1)
            self.lay(body[:-1], start, n)
            self.lay(body[-1:], n, goal)
        elif body[0][0] == "do":
            self.move("step", body[0][1], [start], [goal])
        elif body[0][0] == "use":
            self.lay(body[0][1], start, goal)
        elif body[0][0] == "if":
            yes, no = self.new(2)
            self.move("yes", body[0][1], [start], [yes])
            self.move("no", body[0][1], [start], [no])
            self.lay(body[0][2], yes, goal)
            self.lay(body[0][3], no, goal)
        elif body[0][0] == "both":
            a, b, c, d = self.new(4)
            self.move("silent", None, [start], [a, b])
            self.lay(body[0][1], a, c)
            self.lay(body[0][2], b, d)
            self.move("silent", None, [c, d], [goal])
        else:
            a, b = self.new(2)
            self.move("silent", None, [start], [a])
            self.lay(body[0][2], a, b)
            self.move("no", body[0][1], [b], [a])
            self.move("yes", body[0][1], [b], [goal])


class Stop(Exception):
    """A judged record has no right order here."""


class CanNot(Exception):
    """A doing can't be done."""


class Model:

    def __init__(self, recipes, plant, day, orders=None):
        self.book = Book(recipes)
        self.nets = {name: Net(body).moves for name, body in self.book.recipes.items()}
        self.there_is = {"vessel": {}, "unit": {}}
        self.pairs = {"claim": {}, "take": {}, "give": {}}
        self.doings = []
        for words in [line.split() for line in plant.split("\n") if line.strip()]:
            if words[0] in self.there_is:
                self.there_is[words[0]][words[1]] = int(words[2])
            elif words[0] in self.pairs:
                self.pairs[words[0]].setdefault(words[1], {})[words[2]] = int(words[3])
            elif words[0] != "stuff":
                self.doings.append(words)
        self.lines, self.now, self.batches, self.lots = [], 0, [], []
        self.vessels = {name: {} for name in self.there_is["vessel"]}
        self.shipments, self.done, self.finished = [], 0, []
        self.orders = None if orders is None else orders[::-1]
        self.is_stopped = False
        try:
            for words in [line.split() for line in day.split("\n") if line.strip()]:
                self.carry_out(words)
        except Stop:
            self.is_stopped = True

    def write(self, *words):
        self.lines.append(" ".join(map(str, words)))

    def carry_out(self, words):
        minute, word, name = int(words[0]), words[1], words[-1] if len(words) == 2 else words[2]
        for _ in range(2000):
            over = [end for batch in self.batches for _, end in batch["begun"] if self.now < end <= minute]
            if not over:
                break
            self.now = min(over)
            self.go_on()
        self.now = max(self.now, minute)
        under_way = [batch for batch in self.batches if batch["name"] == name]
        if word == "batch" and len(self.batches) >= 8:
            return self.write(minute, "refused", name)
        if word == "say" and not under_way:
            return self.write(minute, "unheard", name, words[3])
        self.write(*words)
        if word == "lot":
            self.lots.append({"name": name, "stuff": words[3], "left": int(words[4]), "last": int(words[5])})
        elif word == "batch":
            self.batches.append({"name": name, "recipe": words[3], "marked": {0}, "begun": [], "answers": {},
                                 "held": {unit: 0 for unit in self.there_is["unit"]}, "deeds": 0})
        elif word == "say":
            under_way[0]["answers"][words[3]] = words[4]
        if word != "till":
            self.go_on()

    def go_on(self):
        for _ in range(4000):
            if not any(self.do_first(batch) for batch in self.batches):
                return

    def do_first(self, batch):
        moves = self.nets[batch["recipe"]]
        for k, (number, end) in enumerate(batch["begun"]):
            _, step, _, behind = moves[number]
            lines = self.do_all(step) if end <= self.now else None
            if lines is not None:
                del batch["begun"][k]
                batch["marked"] |= behind
                for unit, amount in self.pairs["give"].get(step, {}).items():
                    batch["held"][unit] -= amount
                batch["deeds"] += 1
                self.write(self.now, "end", batch["name"], step)
                self.lines += lines
                return True
        can_be = [(number, move) for number, move in enumerate(moves) if move[2] <= batch["marked"]]
        for number, (kind, name, before, behind) in can_be:
            if kind == "silent":
                batch["marked"] = (batch["marked"] - before) | behind
                return True
        for number, (kind, name, before, behind) in can_be:
            if kind in ("yes", "no") and batch["answers"].get(name) == kind:
                del batch["answers"][name]
                batch["marked"] = (batch["marked"] - before) | behind
                batch["deeds"] += 1
                self.write(self.now, "ask", batch["name"], name, kind)
                return True
        for number, (kind, name, before, behind) in can_be:
            if kind == "step" and self.begins(batch, number, name):
                batch["marked"] -= before
                return True
        if batch["marked"] == {1} and not batch["begun"]:
            self.batches.remove(batch)
            self.finished.append(batch)
            self.write(self.now, "done", batch["name"])
            return True
        return False

    def free(self):
        return {unit: there_are - sum(batch["held"][unit] for batch in self.batches)
                for unit, there_are in self.there_is["unit"].items()}

    def begins(self, batch, number, step):
        takes = self.pairs["take"].get(step, {})
        if any(self.free()[unit] < amount for unit, amount in takes.items()):
            return False
        held = dict(batch["held"])
        for unit, amount in takes.items():
            batch["held"][unit] += amount
        order = self.order_told()
        if takes and len(order) < len(self.batches):
            batch["held"] = held
            return False
        if takes and self.orders is not None:
            order = self.orders.pop() if self.orders else None
            if order is None or not self.is_right(order):
                raise Stop()
        batch["begun"].append((number, self.now + self.book.times[step]))
        self.write(self.now, "begin", batch["name"], step)
        if takes:
            self.write("order", *order)
        return True

    def can_be_ended(self, batch, free):
        claims = self.pairs["claim"].get(batch["recipe"], {})
        return all(claims.get(unit, 0) - batch["held"][unit] <= free[unit] for unit in free)

    def order_told(self):
        free, order = self.free(), []
        while True:
            found = [batch for batch in self.batches if batch["name"] not in order and self.can_be_ended(batch, free)]
            if not found:
                return order
            order.append(found[0]["name"])
            free = {unit: free[unit] + found[0]["held"][unit] for unit in free}

    def is_right(self, order):
        under_way, free = {batch["name"]: batch for batch in self.batches}, self.free()
        if sorted(order) != sorted(under_way):
            return False
        for name in order:
            if not self.can_be_ended(under_way[name], free):
                return False
            free = {unit: free[unit] + under_way[name]["held"][unit] for unit in free}
        return True

    def do_all(self, step):
        kept = ([dict(lot) for lot in self.lots], {name: dict(held) for name, held in self.vessels.items()},
                list(self.shipments), self.done)
        lines = []
        try:
            for word, *words in [doing[:1] + doing[2:] for doing in self.doings if doing[1] == step]:
                for line in getattr(self, word)(*words):
                    lines.append(" ".join(map(str, line)))
                    self.done += 1
                self.need(self.done <= 200)
                for held in [*self.vessels.values(), *self.shipments]:
                    for amount in held.values():
                        self.need_terms(amount)
        except CanNot:
            self.lots, self.vessels, self.shipments, self.done = kept
            return None
        return lines

    def need(self, is_so):
        if not is_so:
            raise CanNot()

    def need_terms(self, amount):
        self.need(amount.numerator <= MOST_TERM and amount.denominator <= MOST_TERM)

    def whole(self, vessel):
        return sum(self.vessels[vessel].values(), Fraction(0))

    def put(self, vessel, key, amount):
        held = self.vessels[vessel]
        held[key] = held.get(key, Fraction(0)) + amount
        if held[key] == 0:
            del held[key]

    def charge(self, vessel, stuff, amount):
        lots = [lot for lot in self.lots if lot["stuff"] == stuff and lot["left"] > 0 and self.now <= lot["last"]]
        lacking = int(amount)
        self.need(sum(lot["left"] for lot in lots) >= lacking)
        self.need(self.whole(vessel) + lacking <= self.there_is["vessel"][vessel])
        for lot in sorted(lots, key=lambda lot: lot["last"]):
            here = min(lot["left"], lacking)
            if here:
                lot["left"] -= here
                lacking -= here
                self.put(vessel, (lot["name"], stuff), Fraction(here))
                yield "charge", vessel, lot["name"], here

    def pour(self, first, second, amount):
        there_is = self.whole(first)
        self.need(there_is >= int(amount))
        self.need(self.whole(second) + int(amount) <= self.there_is["vessel"][second])
        share = int(amount) / there_is
        self.need_terms(share)
        for key, held in list(self.vessels[first].items()):
            self.put(first, key, -held * share)
            self.put(second, key, held * share)
        yield "pour", first, second, amount

    def empty(self, first, second):
        self.need(self.whole(first) + self.whole(second) <= self.there_is["vessel"][second])
        for key, held in list(self.vessels[first].items()):
            self.put(first, key, -held)
            self.put(second, key, held)
        yield "empty", first, second

    def turn(self, vessel, first, second, top, bottom):
        for (lot, stuff), held in list(self.vessels[vessel].items()):
            if stuff == first:
                self.put(vessel, (lot, first), -held * Fraction(int(top), int(bottom)))
                self.put(vessel, (lot, second), held * Fraction(int(top), int(bottom)))
        yield "turn", vessel, first, second, top, bottom

    def ship(self, vessel):
        if self.vessels[vessel]:
            self.need(len(self.shipments) < 100)
            self.need_terms(self.whole(vessel))
            self.shipments.append(self.vessels[vessel])
            self.vessels[vessel] = {}
            yield "ship", vessel, len(self.shipments) - 1

    def claims(self):
        numbers = [len(self.nets)]
        for moves in self.nets.values():
            spots = self.spots(moves)
            numbers += [len(spots)] + [max(dict(held)[unit] for _, _, held in spots) for unit in self.there_is["unit"]]
        return numbers

    def spots(self, moves):
        waiting = [(frozenset([0]), frozenset(), tuple((unit, 0) for unit in self.there_is["unit"]))]
        spots = set(waiting)
        while waiting:
            marked, begun, held = waiting.pop()
            found = []
            for number, (kind, name, before, behind) in enumerate(moves):
                if before <= marked and kind == "step":
                    takes = self.pairs["take"].get(name, {})
                    found.append((marked - before, begun | {number},
                                  tuple((unit, have + takes.get(unit, 0)) for unit, have in held)))
                elif before <= marked:
                    found.append(((marked - before) | behind, begun, held))
                if number in begun:
                    gives = self.pairs["give"].get(name, {})
                    found.append((marked | behind, begun - {number},
                                  tuple((unit, have - gives.get(unit, 0)) for unit, have in held)))
            waiting += set(found) - spots
            spots |= set(found)
        return spots

    def recall(self, lot):
        places = [(f"vessel {name}", held) for name, held in self.vessels.items()]
        lines = []
        for place, held in places + [(f"shipment {k}", held) for k, held in enumerate(self.shipments)]:
            amounts = [amount for key, amount in held.items() if key[0] == lot]
            if amounts:
                lines.append(f"{place} {sum(amounts)} of {sum(held.values())}")
        return lines

    def report(self):
        lines = [f"time {self.now}"] + [f"lot {lot['name']} {lot['left']}" for lot in self.lots]
        lines += [f"vessel {name} {self.whole(name)}" for name in self.vessels]
        lines += [f"unit {unit} {free}" for unit, free in self.free().items()]
        for batch in self.batches:
            steps = [self.nets[batch["recipe"]][number][1] for number, _ in batch["begun"]]
            lines.append(" ".join(["batch", batch["name"], "under way", *steps]))
        return lines + [f"batch {batch['name']} done {batch['deeds']}" for batch in self.finished]


def judged_by_model(recipes, plant, day, text):
    lines = text.split("\n")
    if lines[-1] == "":
        lines.pop()
    model = Model(recipes, plant, day, [line.split()[1:] for line in lines if line.split()[:1] == ["order"]])
    if not model.is_stopped and model.lines == lines:
        return [1]
    alike = 0
    while alike < min(len(lines), len(model.lines)) and lines[alike] == model.lines[alike]:
        alike += 1
    return [0, alike]


class Maker:
    """Makes texts by chance, but the same ones of the same number at each time."""

    def __init__(self, number):
        self.chance = random.Random(number)
        self.one = self.chance.choice
        self.steps = [f"s{k}" for k in range(self.chance.randint(2, 7))]
        self.conditions = [f"c{k}" for k in range(self.chance.randint(1, 3))]
        self.units = [f"u{k}" for k in range(self.chance.randint(0, 3))]
        self.stuffs = [f"m{k}" for k in range(self.chance.randint(2, 4))]
        self.vessels = [f"v{k}" for k in range(self.chance.randint(2, 4))]
        self.told, self.recipes = set(), []

    def step(self):
        step = self.one(self.steps)
        if step in self.told:
            return f"do {step}"
        self.told.add(step)
        least = self.one([0, 0, 1, 2, 3, 5])
        return f"do {step} takes {least} to {least + self.one([0, 2])}"

    def item(self, depth):
        word = self.one(["do", "do", "do", "if", "both", "again", "use"]) if depth > 0 else "do"
        if word == "if":
            return f"if {self.one(self.conditions)} then {self.body(depth)} else {self.body(depth)} end"
        if word == "both":
            return "both " + " and ".join([self.body(depth) for _ in range(self.one([2, 2, 3]))]) + " end"
        if word == "again":
            return f"again {self.body(depth)} until {self.one(self.conditions)} end"
        if word == "use" and self.recipes:
            return f"use {self.one(self.recipes)}"
        return self.step()

    def body(self, depth):
        return " ".join([self.item(depth - 1) for _ in range(self.one([0, 1, 1, 2, 2, 3]))])

    def book(self):
        text = ""
        for k in range(self.chance.randint(1, 3)):
            text += f"recipe r{k} {self.step()} {self.body(self.chance.randint(1, 3))} end\n"
            self.recipes.append(f"r{k}")
        return text

    def pairs(self):
        pairs = {}
        for step in sorted(self.told):
            for unit in self.units:
                if self.chance.random() < .5:
                    amount = self.chance.randint(1, 3)
                    pairs["take", step, unit] = amount
                    pairs["give", step if self.chance.random() < .7 else self.one(sorted(self.told)), unit] = amount
        return [f"{word} {step} {unit} {amount}" for (word, step, unit), amount in pairs.items()]

    def doing(self):
        word = self.one(["charge", "charge", "pour", "empty", "turn", "turn", "ship"])
        step = self.one(sorted(self.told))
        first, second = self.chance.sample(self.vessels, 2)
        if word == "charge":
            return f"charge {step} {first} {self.one(self.stuffs)} {self.chance.randint(1, 9)}"
        if word == "pour":
            return f"pour {step} {first} {second} {self.chance.randint(1, 4)}"
        if word == "empty":
            return f"empty {step} {first} {second}"
        if word == "turn":
            bottom = self.one([1, 2, 7, 10, 991, 997, 1000])
            stuffs = " ".join(self.chance.sample(self.stuffs, 2))
            return f"turn {step} {first} {stuffs} {self.chance.randint(1, bottom)} {bottom}"
        return f"ship {step} {first}"

    def plant(self, book):
        """The claims are what's held at the most or a bit more, so that they often stand in one another's way."""
        pairs = self.pairs()
        wide = [f"unit {unit} 99" for unit in self.units]
        wide += [f"claim {recipe} {unit} 99" for recipe in self.recipes for unit in self.units]
        read = read_plant(book, told(wide + pairs))
        claims, greatest = [], {unit: 1 for unit in self.units}
        for number, recipe in enumerate(self.recipes):
            spots = spots_of(read, number)
            for k, unit in enumerate(self.units):
                claim = max(spot[2][k] for spot in spots) + self.one([0, 0, 0, 1])
                greatest[unit] = max(greatest[unit], claim)
                claims += [f"claim {recipe} {unit} {claim}"] if claim > 0 else []
        units = [f"unit {unit} {most + self.one([0, 0, 1])}" for unit, most in greatest.items()]
        holders = [f"stuff {stuff}" for stuff in self.stuffs]
        holders += [f"vessel {vessel} {self.one([10, 30, 1000])}" for vessel in self.vessels]
        return told(holders + units + claims + pairs + [self.doing() for _ in range(self.one([0, 3, 8, 20]))])

    def day(self, book):
        minute, lots, batches, orders = 0, 0, 0, []
        conditions = [name for name in self.conditions if name in book.split()]
        for _ in range(self.one([10, 40, 100])):
            minute += self.one([0, 0, 0, 1, 1, 2, 5])
            word = self.one(["lot", "batch", "say", "say", "till"])
            if word == "lot" and lots < 40:
                last = minute + self.one([0, 5, 20, 900])
                orders.append(f"{minute} lot l{lots} {self.one(self.stuffs)} {self.chance.randint(1, 30)} {last}")
                lots += 1
            elif word == "batch" and batches < 20:
                orders.append(f"{minute} batch b{batches} {self.one(self.recipes)}")
                batches += 1
            elif word == "say" and batches > 0 and conditions:
                batch = self.chance.randrange(max(0, batches - 8), batches)
                orders.append(f"{minute} say b{batch} {self.one(conditions)} {self.one(['yes', 'no'])}")
            else:
                orders.append(f"{minute} till")
        return told(orders + [f"{minute + 99} till"])

    def changed(self, lines):
        """A record with some of its orders shuffled, or with another change."""
        lines = list(lines)
        place, way = self.chance.randrange(len(lines)), self.one(["orders", "orders", "less", "more", "blank", "cut"])
        if way == "orders":
            for k, line in enumerate(lines):
                if line.startswith("order") and self.chance.random() < .3:
                    names = line.split()[1:]
                    lines[k] = " ".join(["order"] + self.chance.sample(names, len(names)))
        elif way == "less":
            del lines[place]
        elif way == "more":
            lines.insert(place, self.one(lines + [""]))
        elif way == "blank":
            lines[place] = " " + lines[place]
        else:
            lines = lines[:place]
        return told(lines)


class Days(unittest.TestCase):

    def count(self, counts, word):
        counts[word] = counts.get(word, 0) + 1

    def assertShown(self, book, plant):
        recipes, lines = shown_of(book, plant)
        self.assertEqual(Book(told(recipes)).recipes, Book(book).recipes)
        self.assertEqual(Book(told(recipes)).times, Book(book).times)
        self.assertEqual(sorted(lines), sorted(plant.split("\n")[:-1]))
        if len(told(recipes)) <= 6000:
            self.assertEqual(shown_of(told(recipes), told(lines)), (recipes, lines))

    def test_many_days(self):
        written, judgements, how_many = {}, {1: 0, 0: 0}, 0
        for number in range(400):
            maker = Maker(number)
            book = maker.book()
            try:
                plant = maker.plant(book)
            except Refusal:
                continue
            day = maker.day(book)
            if check_of(day, book, plant)[0] < 0:
                continue
            how_many += 1
            lines = record_of(day, book, plant)
            model = Model(book, plant, day)
            self.assertEqual(lines, model.lines, number)
            self.assertEqual(report_of(day, book, plant), model.report(), number)
            self.assertEqual(claims_of(book, plant), model.claims(), number)
            self.assertShown(book, plant)
            for lot in model.lots[:3]:
                self.assertEqual(recall_of(lot["name"], day, book, plant), model.recall(lot["name"]), number)
            self.assertEqual(judge_of(told(lines), day, book, plant), [1])
            for _ in range(2):
                other = maker.changed(lines)
                judged = judge_of(other, day, book, plant)
                self.assertEqual(judged, judged_by_model(book, plant, day, other), number)
                judgements[judged[0]] += 1
            for line in lines:
                self.count(written, line.split()[1] if line[0].isdigit() else line.split()[0])
        self.assertGreater(how_many, 200)
        self.assertGreater(min(judgements.values()), 40)
        self.assertEqual(len(written), 16)
        self.assertGreater(min(written.values()), 20, written)

    # Small lots and small pours, so that lots are parted and mixed again and again.
    def test_many_mixtures(self):
        recalled = {}
        for number in range(60):
            maker = Maker(number)
            maker.told = [f"s{k}" for k in range(5)]
            book = told(["recipe r", *[f"do {step}" for step in maker.told * 2], "end"])
            holders = [f"stuff {stuff}" for stuff in maker.stuffs] + [f"vessel {name} 500" for name in maker.vessels]
            charges = [f"charge s{k} {maker.one(maker.vessels)} {maker.one(maker.stuffs)} 5" for k in range(5)]
            plant = told(holders + charges + [maker.doing() for _ in range(12)])
            lots = [f"0 lot l{k} {stuff} {maker.chance.randint(1, 9)} {k}"
                    for k, stuff in enumerate(maker.stuffs * 8)]
            day = told(lots + [f"{k} batch b{k} r" for k in range(6)] + ["9 till"])
            model = Model(book, plant, day)
            self.assertEqual(record_of(day, book, plant), model.lines, number)
            self.assertEqual(report_of(day, book, plant), model.report(), number)
            for lot in model.lots:
                places = recall_of(lot["name"], day, book, plant)
                self.assertEqual(places, model.recall(lot["name"]), number)
                for place in places:
                    self.count(recalled, place.split()[0] + ("/" if "/" in place else ""))
        self.assertEqual(len(recalled), 4)
        self.assertGreater(min(recalled.values()), 20, recalled)


if __name__ == "__main__":
    unittest.main()
