"""The whole program: one works by all eight calls, the order of all refusals, and what always holds."""

import itertools
import unittest
from fractions import Fraction

from batchworks.refusals import Refusal
from batchworks.works import check, claims, judge, recall, record, report, shown, works
from helper import (answer, as_bytes, check_of, claims_of, judge_of, lines_in, named, recall_of, record_of, report_of,
                    shown_of, told, works_of)
from test_model import Maker

RECIPES = """recipe clean do rinse takes 2 to 3 end
recipe cheese
  do fill takes 3 to 5
  both do warm takes 4 to 6 and do stir and end
  again do press takes 1 to 1 until firm end
  if aged then do ripen takes 10 to 20 else end
  do pack use clean
end
"""
WORKS = """stuff milk
vessel vat 100
unit worker 2
claim cheese worker 1
  charge fill   vat milk 30
unit heater 1
take fill worker 1

stuff rennet
stuff curd
charge fill vat rennet 3
give  fill worker 1
claim cheese heater 1
take warm heater 1
vessel mold 60
take press worker 1
turn warm vat milk curd 2 4
give press worker 1
give warm heater 1
pour press vat mold 7
claim clean worker 1
take rinse worker 1
give rinse worker 1
ship pack mold
empty rinse vat mold
"""
DAY = """0 lot sun milk 40 20
0 lot tue milk 50 15
0 batch p cheese
1 lot enzyme rennet 5 100
2 batch q cheese
3 batch r clean
14 say p firm no
15 say p firm yes
15 say q firm yes
16 lot more rennet 9 99
20 say p aged no
21 say r aged yes
25 say q aged yes
30 till
"""
RECORD = """0 lot sun milk 40 20
0 lot tue milk 50 15
0 batch p cheese
0 begin p fill
order p
1 lot enzyme rennet 5 100
2 batch q cheese
2 begin q fill
order p q
3 end p fill
charge vat tue 30
charge vat enzyme 3
3 begin p warm
order p q
3 begin p stir
3 end p stir
3 batch r clean
3 begin r rinse
order r p q
5 end r rinse
empty vat mold
5 done r
7 end p warm
turn vat milk curd 2 4
7 begin p press
order p q
14 say p firm no
15 say p firm yes
15 say q firm yes
16 lot more rennet 9 99
16 end q fill
charge vat sun 30
charge vat more 3
16 end p press
pour vat mold 7
16 ask p firm yes
16 begin q warm
order q p
16 begin q stir
16 end q stir
20 end q warm
turn vat milk curd 2 4
20 begin q press
order p q
20 say p aged no
20 ask p aged no
20 begin p pack
20 end p pack
ship mold 0
20 begin p rinse
order p q
21 end q press
pour vat mold 7
21 ask q firm yes
21 unheard r aged
22 end p rinse
empty vat mold
22 done p
25 say q aged yes
25 ask q aged yes
25 begin q ripen
30 till
"""
REPORT = """time 30
lot sun 10
lot tue 20
lot enzyme 2
lot more 6
vessel vat 0
vessel mold 26
unit worker 2
unit heater 1
batch q under way ripen
batch r done 1
batch p done 8
"""
RECALLS = {"sun": ["vessel mold 260/11 of 26", "shipment 0 70/11 of 40"], "tue": ["shipment 0 30 of 40"],
           "enzyme": ["shipment 0 3 of 40"], "more": ["vessel mold 26/11 of 26", "shipment 0 7/11 of 40"]}
SHOWN_RECIPES = """recipe clean do rinse takes 2 to 3 end
recipe cheese do fill takes 3 to 5 both both do warm takes 4 to 6 and do stir takes 0 to 0 end and end \
again do press takes 1 to 1 until firm end if aged then do ripen takes 10 to 20 else end do pack takes 0 to 0 \
use clean end
"""
SHOWN_WORKS = """stuff milk
stuff rennet
stuff curd
vessel vat 100
vessel mold 60
unit worker 2
unit heater 1
claim cheese worker 1
claim cheese heater 1
claim clean worker 1
take fill worker 1
take warm heater 1
take press worker 1
take rinse worker 1
give fill worker 1
give press worker 1
give warm heater 1
give rinse worker 1
charge fill vat milk 30
charge fill vat rennet 3
turn warm vat milk curd 2 4
pour press vat mold 7
ship pack mold
empty rinse vat mold
"""
OF_WORKS = [works, claims, shown]
# Each call with what it's handed behind the day's text, where nothing is wrong with that.
OF_DAYS = [(check, []), (record, []), (report, []), (judge, [RECORD]), (judge, [""]), (recall, ["sun"])]


def with_length(text):
    return [len(text)] + as_bytes(text)


class OneWorks(unittest.TestCase):
    """What each call answers of one day was gone through by hand, line by line."""

    CALLS = [((works, RECIPES, WORKS), [2, 3, 2, 2, 6]), ((check, RECIPES, WORKS, DAY), [14, 4, 3]),
             ((record, RECIPES, WORKS, DAY), with_length(RECORD)), ((judge, RECIPES, WORKS, DAY, RECORD), [1]),
             ((judge, RECIPES, WORKS, DAY, RECORD[:-8]), [0, 61]), ((report, RECIPES, WORKS, DAY), with_length(REPORT)),
             ((claims, RECIPES, WORKS), [2, 3, 1, 0, 38, 1, 1]),
             ((shown, RECIPES, WORKS), with_length(SHOWN_RECIPES) + with_length(SHOWN_WORKS))]
    CALLS += [((recall, RECIPES, WORKS, DAY, lot), with_length(told(lines))) for lot, lines in RECALLS.items()]
    CALLS += [((recall, RECIPES, WORKS, DAY, lot), [-2]) for lot in ["", "milk", "vat", "p", "Sun", "sun ", "mon"]]

    def test_all_calls(self):
        for call, expected in self.CALLS:
            self.assertEqual(answer(*call), expected)

    # Each call behind each other: nothing is kept of the one before.
    def test_all_calls_behind_one_another(self):
        others = [(function, ["recipe a end", "stuff sun", "7 lot sun sun 1 1", "sun"][:how_many])
                  for function, how_many in [(works, 2), (check, 3), (record, 3), (judge, 4), (recall, 4), (report, 3),
                                             (claims, 2), (shown, 2)]]
        for call, expected in self.CALLS:
            for function, texts in others:
                answer(function, *texts)
                answer(function, *["bad" for text in texts])
                self.assertEqual(answer(*call), expected)

    def test_lists_that_are_handed_in_again(self):
        recipes, plant, day, judged, lot = [as_bytes(text) for text in [RECIPES, WORKS, DAY, RECORD, "tue"]]
        for turn in range(3):
            self.assertEqual(judge(recipes, plant, day, judged), [1])
            self.assertEqual(recall(recipes, plant, day, lot), with_length(told(RECALLS["tue"])))
            self.assertEqual(shown(recipes, plant), with_length(SHOWN_RECIPES) + with_length(SHOWN_WORKS))
        self.assertEqual([recipes, plant, day, judged, lot],
                         [as_bytes(text) for text in [RECIPES, WORKS, DAY, RECORD, "tue"]])

    def test_answers_are_lists_of_their_own(self):
        for call, expected in self.CALLS:
            handed = [as_bytes(text) for text in call[1:]]
            first = call[0](*handed)
            for text in handed:
                self.assertIsNot(first, text)
            first.clear()
            self.assertEqual(call[0](*handed), expected)

    def test_what_is_shown_answers_the_same(self):
        for call, expected in self.CALLS:
            self.assertEqual(answer(call[0], SHOWN_RECIPES, SHOWN_WORKS, *call[3:]), expected)

    # Where q begins to fill either may be ended first; later one alone has all that it may claim.
    def test_other_orders_are_good_as_well(self):
        for order, other, right in [("order p q\n3 end", "order q p\n3 end", True),
                                    ("order r p q", "order q r p", False), ("order r p q", "order p q r", False),
                                    ("order r p q", "order r q p", False), ("order q p", "order p q", False)]:
            self.assertEqual(RECORD.count(order), 1)
            answered = judge_of(RECORD.replace(order, other), DAY, RECIPES, WORKS)
            before = RECORD[:RECORD.index(order)].count("\n")
            self.assertEqual(answered, [1] if right else [0, before - 1], other)


class EveryLineOfADay(unittest.TestCase):

    # The record of a day's first orders is how the record of more orders begins.
    def test_a_day_that_goes_on(self):
        orders = DAY.split("\n")[:-1]
        for how_many in range(len(orders) + 1):
            lines = record_of(told(orders[:how_many]), RECIPES, WORKS)
            self.assertEqual(lines, RECORD.split("\n")[:len(lines)])
            self.assertEqual(judge_of(RECORD, told(orders[:how_many]), RECIPES, WORKS)[0],
                             1 if len(lines) == RECORD.count("\n") else 0)

    def test_each_call_tells_the_same_of_it(self):
        orders = DAY.split("\n")[:-1]
        for how_many in range(len(orders) + 1):
            day = told(orders[:how_many])
            lots = [order.split()[2] for order in orders[:how_many] if " lot " in order]
            batches = [order.split()[2] for order in orders[:how_many] if " batch " in order]
            self.assertEqual(check_of(day, RECIPES, WORKS), [how_many, len(lots), len(batches)])
            told_lots = [line.split()[1] for line in report_of(day, RECIPES, WORKS) if line.startswith("lot")]
            self.assertEqual(told_lots, lots)
            for lot in RECALLS:
                answered = answer(recall, RECIPES, WORKS, day, lot)
                self.assertEqual(answered == [-2], lot not in lots)


# Texts that are as they should be, and others with what is wrong with them, each fault with its place
# in the order of refusals and its refusal.
NO_TEXT, NO_BOOK, LINE, EITHER, SPOTS, NO_DAY, NO_LOT = range(7)
REFUSALS = [-1, -1008, -1201, -1006, -1007, -500301, -2]
WRONG_RECIPES = [(RECIPES, []), ([256] + as_bytes(RECIPES), [NO_TEXT]), (RECIPES + " " * 6000, [NO_TEXT]),
                 (RECIPES + "recipe", [NO_BOOK]), (RECIPES + "recipe r either or end end", [EITHER]),
                 (RECIPES + "recipe r do fill end", [SPOTS]),
                 (RECIPES + "recipe r do fill end recipe s either or end end", [EITHER, SPOTS])]
WRONG_WORKS = [(WORKS, []), (as_bytes(WORKS) + [-1], [NO_TEXT]), (WORKS + "\n" * 6000, [NO_TEXT]),
               ("stuff a\nbad\n" + WORKS, [LINE]), (WORKS + "take stir heater 1", [SPOTS])]
WRONG_DAYS = [(DAY, []), (as_bytes(DAY) + [1000], [NO_TEXT]), (DAY + "\n" * 6000, [NO_TEXT]),
              ("0 till\n\nbad\n" + DAY, [NO_DAY])]
WRONG_LOTS = [("sun", []), ("abcdefghijklm", [NO_TEXT]), ([-1], [NO_TEXT]), ("mon", [NO_LOT]), ("", [NO_LOT])]
WRONG_RECORDS = [(RECORD, []), ("bad", []), ("\n" * 60000, []), ("\n" * 60001, [NO_TEXT]), ([-65535], [NO_TEXT])]


class AllRefusals(unittest.TestCase):

    def refuse(self, function, *choices):
        for texts in itertools.product(*choices):
            faults = [fault for text, wrong in texts for fault in wrong]
            answered = answer(function, *[text for text, wrong in texts])
            if faults:
                self.assertEqual(answered, [REFUSALS[min(faults)]], (function, faults))
            else:
                self.assertGreaterEqual(answered[0], 0)

    def test_works_claims_and_shown(self):
        for function in OF_WORKS:
            self.refuse(function, WRONG_RECIPES, WRONG_WORKS)

    def test_check_record_and_report(self):
        for function in [check, record, report]:
            self.refuse(function, WRONG_RECIPES, WRONG_WORKS, WRONG_DAYS)

    def test_recall(self):
        self.refuse(recall, WRONG_RECIPES, WRONG_WORKS, WRONG_DAYS, WRONG_LOTS)

    def test_judge(self):
        self.refuse(judge, WRONG_RECIPES, WRONG_WORKS, WRONG_DAYS, WRONG_RECORDS)

    def test_every_kind_of_the_works(self):
        for recipes, plant, refusal in [
                ("", WORKS, -1008), (RECIPES, WORKS + "stuf x", -3601), (RECIPES, WORKS + "stuff end", -3601),
                (RECIPES, WORKS + "vessel x 0", -3601), (RECIPES, WORKS + "stuff curd", -3602),
                (RECIPES, WORKS + "take fill worker 1", -3602), (RECIPES, WORKS + "ship fill tun", -3603),
                (RECIPES, WORKS + "claim fill worker 1", -3603), (RECIPES, WORKS + "empty fill vat vat", -3604),
                (RECIPES, WORKS + told(["ship fill vat"] * 55), -9005),
                (RECIPES, WORKS + told([f"unit u{k} 1" for k in range(5)]), -4005),
                (RECIPES + "recipe r either or end end", WORKS, -1006),
                (RECIPES, WORKS + "claim clean heater 2", -1007)]:
            for function in OF_WORKS:
                self.assertEqual(answer(function, recipes, plant), [refusal])
            for function, more in OF_DAYS:
                self.assertEqual(answer(function, recipes, plant, DAY, *more), [refusal])

    def test_every_kind_of_the_day(self):
        for line, refusal in [("30 tell", -501501), ("100001 till", -501501), ("30 lot sun milk 1 1", -501502),
                              ("30 batch q clean", -501502), ("30 say s firm no", -501503),
                              ("30 batch s brew", -501503),
                              ("29 till", -501504), (told(["30 till"] * 107), -512105),
                              (told([f"30 lot l{k} milk 1 1" for k in range(37)]), -505105),
                              (told([f"30 batch b{k} clean" for k in range(18)]), -503205)]:
            for function, more in OF_DAYS:
                self.assertEqual(answer(function, RECIPES, WORKS, DAY + line, *more), [refusal])


def days(numbers):
    """Made-up days that aren't refused, each with its recipes and its works' text."""
    for number in numbers:
        maker = Maker(number)
        recipes = maker.book()
        try:
            plant = maker.plant(recipes)
        except Refusal:
            continue
        day = maker.day(recipes)
        if check_of(day, recipes, plant)[0] >= 0:
            yield recipes, plant, day


class WhatAlwaysHolds(unittest.TestCase):

    # Every drop is known: of each lot as much as came is left, in vessels or in shipments; and what is
    # in a vessel or a shipment is of lots.
    def test_every_drop_is_known(self):
        how_many = 0
        for recipes, plant, day in days(range(1000, 1060)):
            lines = report_of(day, recipes, plant)
            places = {tuple(line.split()[:2]): int(line.split()[2]) for line in lines if line.startswith("vessel")}
            left = {line.split()[1]: int(line.split()[2]) for line in lines if line.startswith("lot")}
            there = {}
            for order in [line.split() for line in day.split("\n") if " lot " in line]:
                amount = Fraction(left[order[2]])
                for words in [line.split() for line in recall_of(order[2], day, recipes, plant)]:
                    place = tuple(words[:2])
                    amount += Fraction(words[2])
                    there[place] = there.get(place, 0) + Fraction(words[2])
                    self.assertEqual(places.setdefault(place, int(words[4])), int(words[4]))
                self.assertEqual(amount, int(order[4]))
                how_many += 1
            self.assertEqual({place: amount for place, amount in places.items() if amount > 0}, there)
            shipments = [line for line in record_of(day, recipes, plant) if line.startswith("ship")]
            self.assertEqual(len([place for place in places if place[0] == "shipment"]), len(shipments))
        self.assertGreater(how_many, 100)

    def test_record_and_report_tell_the_same(self):
        for recipes, plant, day in days(range(1100, 1160)):
            lines, reported = record_of(day, recipes, plant), report_of(day, recipes, plant)
            told_of = {word: [line.split()[2:] for line in lines if line.split()[1] == word]
                       for word in ["batch", "done", "begin", "end", "ask"]}
            done = [words[0] for words in told_of["done"]]
            under_way = [words[0] for words in told_of["batch"] if words[0] not in done]
            expected = []
            for name in under_way:
                begun = [words[1] for words in told_of["begin"] if words[0] == name]
                for ended in [words[1] for words in told_of["end"] if words[0] == name]:
                    begun.remove(ended)
                expected.append((name, sorted(begun)))
            words = [line.split() for line in reported if line.startswith("batch")]
            self.assertEqual([(line[1], sorted(line[4:])) for line in words if line[2] == "under"], expected)
            deeds = [str(len([1 for words in told_of["end"] + told_of["ask"] if words[0] == name])) for name in done]
            self.assertEqual([line[1:] for line in words if line[2] == "done"],
                             [[name, "done", number] for name, number in zip(done, deeds)])
            self.assertEqual(reported[0], f"time {day.split()[-2]}")

    # Nothing ever locks: with all that is wanted and an answer to each question all batches get done.
    def test_nothing_ever_locks(self):
        how_many = 0
        for number in range(1200, 1300):
            maker = Maker(number)
            recipes = maker.book()
            try:
                plant = "\n".join([line for line in maker.plant(recipes).split("\n")
                                   if line.split()[:1] and line.split()[0] in ("unit", "claim", "take", "give")])
            except Refusal:
                continue
            if "take" not in plant:
                continue
            says = [f"say b{k} {name} yes" for k in range(8) for name in maker.conditions if name in recipes.split()]
            orders = [f"{k // 3} batch b{k} {maker.one(maker.recipes)}" for k in range(8)]
            orders += [f"{10 + 50 * turn} {say}" for turn in range(20) for say in says][:111] + ["9000 till"]
            lines = report_of(told(orders), recipes, plant)
            under_way = [line for line in lines if "under way" in line]
            # Whoever is still under way waits for an answer, or for one that does: no step of it is begun.
            self.assertTrue(all(line.endswith("under way") for line in under_way), under_way)
            if not under_way:
                how_many += 1
                self.assertEqual([line for line in lines if line.startswith("unit")],
                                 [line for line in plant.split("\n") if line.startswith("unit")])
        self.assertGreater(how_many, 20)

    def test_claims_are_never_exceeded(self):
        for recipes, plant, day in days(range(1300, 1340)):
            units = [line.split() for line in plant.split("\n") if line.startswith("unit")]
            numbers = claims_of(recipes, plant)
            most, place = {}, 1
            for line in shown_of(recipes, plant)[0]:
                most[line.split()[1]] = numbers[place + 1:place + 1 + len(units)]
                place += 1 + len(units)
            self.assertEqual(len(numbers), place)
            for recipe, held in most.items():
                for unit, amount in zip(units, held):
                    claimed = [int(line.split()[3]) for line in plant.split("\n")
                               if line.startswith(f"claim {recipe} {unit[1]} ")] or [0]
                    self.assertLessEqual(amount, claimed[0])
                    self.assertLessEqual(claimed[0], int(unit[2]))

    # Eight batches hold what they take of one unit after the other; the order of taking differs.
    def test_batches_that_would_lock_one_another(self):
        recipes = "recipe a do x takes 1 to 1 do y takes 1 to 1 do e end " \
                  "recipe b do y takes 1 to 1 do x takes 1 to 1 do e end"
        plant = told(["unit u 1", "unit v 1"] + [f"claim {name} {unit} 1" for name in "ab" for unit in "uv"]
                     + ["take x u 1", "take y v 1", "give e u 1", "give e v 1"])
        day = told([f"0 batch c{k} {'ab'[k % 2]}" for k in range(8)] + ["99 till"])
        lines = report_of(day, recipes, plant)
        self.assertEqual(lines[:3], ["time 99", "unit u 1", "unit v 1"])
        self.assertEqual(sorted(lines[3:]), [f"batch {name} done 3" for name in named("c", 8)])

    def test_texts_in_answers(self):
        for recipes, plant, day in days(range(1400, 1410)):
            for function, more in [(record, []), (report, [])]:
                self.assertEqual(answer(function, recipes, plant, day, *more)[0],
                                 len(told(lines_in(answer(function, recipes, plant, day, *more)))))
            self.assertEqual(works_of(recipes, plant)[0], len(shown_of(recipes, plant)[0]))


if __name__ == "__main__":
    unittest.main()
