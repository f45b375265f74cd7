"""How much may be done: doings, shipments, terms of exact amounts, and things that are done at a time."""

import unittest
from fractions import Fraction

from batchworks.carrying import Run
from batchworks.day import read_day
from batchworks.nets import Move
from batchworks.plant import read_plant
from batchworks.store import Store
from helper import named, record_of, told

MOST = 10 ** 18
STUFFS = [f"stuff m{k}" for k in range(12)]


def ends(doings, orders, recipes="recipe a do x end", vessels=("vessel v 1000000", "vessel w 1000000")):
    """How many steps end, and how many doings are written, all in all."""
    lines = record_of(told(orders), recipes, told(STUFFS + list(vessels) + doings))
    done = [line for line in lines if line.split()[0] in ("charge", "pour", "empty", "turn", "ship")]
    return len([line for line in lines if line.split()[1] == "end"]), len(done)


class Doings(unittest.TestCase):

    def test_two_hundred_are_done(self):
        for each, steps, done in [(50, 4, 200), (40, 5, 200), (60, 3, 180), (59, 3, 177), (10, 8, 80), (25, 8, 200)]:
            for doing in ["turn x v m0 m1 1 2", "empty x v w"]:
                orders = [f"{k} batch b{k} a" for k in range(8)]
                self.assertEqual(ends([doing] * each, orders), (steps, done))

    def test_pours_count(self):
        doings = ["charge x v m0 1"] + ["pour x v w 1", "pour x w v 1"] * 22
        orders = ["0 lot l m0 9 9"] + [f"0 batch b{k} a" for k in range(8)]
        self.assertEqual(ends(doings, orders), (4, 180))
        doings = ["charge x v m0 1"] + ["pour x v w 1", "pour x w v 1"] * 12
        self.assertEqual(ends(doings, orders), (8, 200))

    def test_ships_count(self):
        doings = ["charge x v m0 1", "ship x v"] * 25
        orders = ["0 lot l m0 900 9"] + [f"0 batch b{k} a" for k in range(8)]
        self.assertEqual(ends(doings, orders), (4, 200))
        self.assertEqual(ends(doings[:-1], orders), (4, 196))

    # Behind 199 doings one more can be done, drawn from one lot but not from two.
    def test_each_lot_that_is_drawn_from_counts(self):
        recipes = "recipe a do x end recipe b do y end recipe c do z end"
        for before, lots, right in [(196, 4, True), (197, 3, True), (197, 4, False), (198, 2, True), (198, 3, False),
                                    (199, 1, True), (199, 2, False), (200, 1, False)]:
            doings = ["empty x v w"] * 37 + ["empty z v w"] * (before - 5 * 37) + ["charge y v m0 4"]
            orders = [f"0 batch b{k} a" for k in range(5)] + ["0 batch c c"]
            orders += [f"0 lot l{k} m0 {5 - lots if k == 0 else 1} 9" for k in range(lots)] + ["1 batch d b"]
            self.assertEqual(ends(doings, orders, recipes), (7, before + lots) if right else (6, before))

    # Where one of two lots is over, only one is to be drawn from.
    def test_a_lot_that_is_over_makes_one_doing_less(self):
        doings = ["empty x v w"] * 39 + ["empty z v w"] * 4 + ["charge y v m0 3"]
        orders = [f"0 batch b{k} a" for k in range(5)] + ["0 batch c c", "0 lot k m0 1 8", "0 lot l m0 9 99"]
        orders += ["1 batch d b"]
        recipes = "recipe a do x end recipe b do y end recipe c do z end"
        self.assertEqual(ends(doings, orders + ["8 batch e c"], recipes), (6, 199))
        self.assertEqual(ends(doings, orders + ["9 batch e c"], recipes), (7, 200))

    def test_steps_without_doings_end_behind_two_hundred(self):
        orders = [f"0 batch b{k} a" for k in range(4)] + ["1 batch c c", "2 batch d c"]
        self.assertEqual(ends(["empty x v w"] * 50, orders, "recipe a do x end recipe c do y end"), (6, 200))

    def test_ships_of_empty_vessels_can_always_be_done(self):
        orders = [f"0 batch b{k} a" for k in range(4)] + ["1 batch c c", "2 batch d c"]
        recipes = "recipe a do x end recipe c do y end"
        self.assertEqual(ends(["empty x v w"] * 50 + ["ship y v"] * 10, orders, recipes), (6, 200))
        self.assertEqual(ends(["empty x v w"] * 50 + ["ship y v", "empty y v w"], orders, recipes), (4, 200))

    def test_what_could_not_be_done_does_not_count(self):
        doings = ["empty x v w"] * 40 + ["charge x v m5 1"] + ["empty y v w"] * 10
        orders = [f"0 batch b{k} a" for k in range(4)] + [f"{k} batch c{k} c" for k in range(4)]
        orders += [f"{k} say b0 k no" for k in range(4, 40)]
        recipes = "recipe a do x end recipe c do y do y do y do y do y if k then else end end"
        self.assertEqual(ends(doings, orders, recipes), (20, 200))


class Shipments(unittest.TestCase):

    # Each vessel that is shipped was filled before, so the day has no more than 200 doings for them.
    def test_a_hundred_shipments(self):
        doings = ["charge x v m0 1", "ship x v"] * 10
        orders = ["0 lot l m0 900 9"] + [f"0 batch b{k} a" for k in range(12)]
        lines = record_of(told(orders), "recipe a do x end", told(STUFFS + ["vessel v 1"] + doings))
        self.assertEqual([line for line in lines if line.startswith("ship")], [f"ship v {k}" for k in range(100)])

    def test_after_a_hundred_no_more(self):
        plant = read_plant("recipe a do x end", told(STUFFS + ["vessel v 9", "charge x v m0 1", "ship x v"]))
        for shipments, right in [(98, True), (99, True), (100, False)]:
            store = Store(plant)
            store.shipments = [({}, 0)] * shipments
            store.add_lot("l", 0, 9, 9)
            behind = store.behind_step(0, 5)
            self.assertEqual(None if behind is None else behind.lines,
                             ["charge v l 1", f"ship v {shipments}"] if right else None)
        plant = read_plant("recipe a do x end", told(STUFFS + ["vessel v 9", "ship x v"]))
        store = Store(plant)
        store.shipments = [({}, 0)] * 100
        self.assertEqual(store.behind_step(0, 5).lines, [])


def chain(shares):
    """Of stuff 0 a share becomes stuff 1, of that a share stuff 2, and so on."""
    return [f"turn x v m{k} m{k + 1} {share}" for k, share in enumerate(shares)]


class Terms(unittest.TestCase):

    def turned(self, amount, shares):
        doings = [f"charge x v m0 {amount}"] + chain(shares)
        ended, done = ends(doings, [f"0 lot l m0 {amount} 9", "0 batch b a"])
        self.assertEqual(done, len(doings) if ended == 1 else 0)
        return ended == 1

    def test_the_greatest_denominator(self):
        thousandths = ["1 1000"] * 6
        self.assertTrue(self.turned(1, thousandths))
        for more, right in [("1 1", True), ("1000 1000", True), ("1 2", False), ("999 1000", False),
                            ("1 1000", False)]:
            self.assertEqual(self.turned(1, thousandths + [more]), right, more)

    # The product of the denominators is 10^18 and a bit more or less.
    def test_denominators_about_the_greatest(self):
        for last, right in [(["1 999"], True), (["1 1000"], True), (["1 7", "1 143"], False), (["1 7", "1 142"], True),
                            (["1 27", "1 37"], True), (["1 2", "1 501"], False), (["1 2", "1 500"], True)]:
            self.assertEqual(self.turned(1, ["1 1000"] * 5 + last), right, last)

    # 10^6 times shares whose numerators make 10^12, and denominators without 2 and 5.
    def test_the_greatest_numerator(self):
        shares = ["625 627", "625 629", "625 631", "512 513"]
        for last, right in [("8 9", True), ("7 9", True), ("8 11", True), ("10 11", False),
                            ("16 17", False), ("1 1", True)]:
            self.assertEqual(self.turned(1000000, shares + [last]), right, last)

    def test_terms_are_the_lowest(self):
        self.assertTrue(self.turned(1, ["500 1000"] * 11))
        self.assertTrue(self.turned(1000, ["1 1000"] * 7))
        self.assertFalse(self.turned(999, ["1 1000"] * 7))
        self.assertTrue(self.turned(1, ["999 999"] * 11))

    # What is left of the first stuff is watched as well as what becomes the second.
    def test_what_is_left_is_watched_too(self):
        doings = ["charge x v m0 1"] + ["turn x v m0 m1 1 997"] * 6
        orders = ["0 lot l m0 1 9", "0 batch b a"]
        self.assertEqual(ends(doings, orders), (1, 7))
        self.assertEqual(ends(doings + ["turn x v m0 m1 1 997"], orders), (0, 0))
        self.assertEqual(ends(doings + ["turn x v m0 m1 1 1"], orders), (1, 8))

    # Of two lots each pour makes another seventh, be they of one stuff or of two.
    def test_pours_share_each_lot(self):
        held, poured = {"k": Fraction(7), "l": Fraction(0)}, {"k": Fraction(0), "l": Fraction(0)}
        times = -1
        while all(term <= MOST for f in [*held.values(), *poured.values()] for term in f.as_integer_ratio()):
            times += 1
            for lot in held:
                poured[lot] += held[lot] / 7
                held[lot] *= Fraction(6, 7)
            held["l"] += 1
        self.assertGreater(times, 15)
        for stuff in ["m0", "m1"]:
            doings = ["charge x v m0 7", "pour y v w 1", f"charge y v {stuff} 1"]
            orders = ["0 lot k m0 7 98", f"0 lot l {stuff} 90 99", "0 batch a a"]
            orders += [f"{k} say a c no" for k in range(1, 60)]
            self.assertEqual(ends(doings, orders, "recipe a do x again do y until c end end"),
                             (1 + times, 1 + 2 * times))

    def test_one_lot_and_stuff_is_poured_for_ever(self):
        doings = ["charge x v m0 7", "pour y v w 1", "charge y v m0 1"]
        orders = ["0 lot k m0 99 99", "0 batch a a"] + [f"{k} say a c no" for k in range(1, 60)]
        self.assertEqual(ends(doings, orders, "recipe a do x again do y until c end end"), (61, 121))

    # Two parts that are let in each become one that isn't.
    def test_what_comes_together_is_watched(self):
        first = ["charge x v m0 1"] + chain(["1 1000"] * 5 + ["1 999"])
        second = ["charge x w m0 1"] + [f"turn x w m{k} m{k + 1} 1 1000" for k in range(5)] + ["turn x w m5 m6 1 998"]
        orders = ["0 lot l m0 2 9", "0 batch b a"]
        self.assertEqual(ends(first + second, orders), (1, 14))
        for last in ["empty x w v", "empty x v w", "pour x v w 1", "pour x w v 1"]:
            self.assertEqual(ends(first + second + [last], orders), (0, 0))
        self.assertEqual(ends(first + second + ["ship x v", "ship x w"], orders), (1, 16))
        self.assertEqual(ends(first + second + ["ship x v", "empty x w v"], orders), (1, 16))

    def test_unlike_lots_do_not_come_together(self):
        first = ["charge x v m0 1"] + chain(["1 1000"] * 5 + ["1 999"])
        second = ["charge x w m0 1"] + [f"turn x w m{k} m{k + 1} 1 1000" for k in range(5)] + ["turn x w m5 m6 1 998"]
        orders = ["0 lot k m0 1 9", "0 lot l m0 1 9", "0 batch b a"]
        self.assertEqual(ends(first + second + ["empty x w v"], orders), (1, 15))

    # A charge adds to an amount of the same lot that has a great denominator already.
    def test_charges_are_watched(self):
        doings = ["charge x v m0 1"] + ["turn x v m0 m1 1 997"] * 6
        for more, right in [(1, False), (2, False)]:
            orders = ["0 lot l m0 9 9", "0 batch b a"]
            self.assertEqual(ends(doings + [f"charge x v m0 {more}"], orders), (1, 8) if right else (0, 0))
        orders = ["0 lot k m0 1 8", "0 lot l m0 9 9", "0 batch b a"]
        self.assertEqual(ends(doings + ["charge x v m0 1"], orders), (1, 8))

    # While k may be used a charge would add to what there is of it.
    def test_a_charge_can_be_done_when_a_lot_is_over(self):
        doings = ["charge x v m0 1"] + ["turn x v m0 m1 1 997"] * 6 + ["charge y v m0 1"]
        orders = ["0 lot k m0 9 8", "0 lot l m0 9 99", "0 batch b a", "5 batch c c"]
        recipes = "recipe a do x do y end recipe c do z end"
        for more, answered in [(["8 batch d c"], (3, 7)), (["9 batch d c"], (4, 8)),
                               (["8 batch d c", "9 batch e c"], (5, 8))]:
            self.assertEqual(ends(doings, orders + more, recipes), answered)

    # Of one lot and stuff all amounts stay whole, though the shares' terms are great.
    def test_great_amounts_of_one_lot(self):
        doings = ["charge x v m0 1000000", "pour x v w 999983", "pour x w v 999979", "empty x v w"]
        self.assertEqual(ends(doings, ["0 lot l m0 1000000 9", "0 batch b a"]), (1, 4))


def run_of(moves, times, *orders):
    """A recipe's moves are told by hand, for no recipe can do so much at one minute."""
    plant = read_plant(f"recipe a do x takes {times} to {times} end", "stuff m")
    run = Run(read_day(plant, told(orders)), None)
    run.nets = [moves]
    run.carry_out()
    return run.lines


class Turns(unittest.TestCase):

    ROUND = [Move("step", 0, (0,), (0,))]

    def test_four_thousand_things_are_done_at_a_time(self):
        lines = run_of(self.ROUND, 0, "0 batch b a", "0 till")
        self.assertEqual(lines, ["0 batch b a"] + ["0 begin b x", "0 end b x"] * 2000 + ["0 till"])

    def test_silent_moves_count(self):
        moves = [Move("silent", 0, (0,), (2,)), Move("step", 0, (2,), (0,))]
        lines = run_of(moves, 0, "0 batch b a", "0 till")
        self.assertEqual(lines, ["0 batch b a"] + ["0 begin b x", "0 end b x"] * 1333 + ["0 till"])

    def test_each_order_goes_on_anew(self):
        lines = run_of(self.ROUND, 0, "0 batch b a", "1 lot l m 1 1", "2 till", "3 lot k m 1 1")
        rounds = [[f"{minute} begin b x", f"{minute} end b x"] * 2000 for minute in [0, 1, 3]]
        self.assertEqual(lines, ["0 batch b a"] + rounds[0] + ["1 lot l m 1 1"] + rounds[1]
                         + ["2 till", "3 lot k m 1 1"] + rounds[2])

    def test_silent_moves_in_front_count(self):
        moves = [Move("silent", 0, (0,), (2,)), Move("step", 0, (2,), (2,))]
        self.assertEqual(run_of(moves, 0, "0 batch b a"),
                         ["0 batch b a"] + ["0 begin b x", "0 end b x"] * 1999 + ["0 begin b x"])


class Passings(unittest.TestCase):

    ROUND = [Move("step", 0, (0,), (0,))]

    def passed(self, first, last):
        lines = []
        for minute in range(first, last + 1):
            lines += [f"{minute} end b x", f"{minute} begin b x"]
        return lines

    def test_two_thousand_minutes_on_the_way(self):
        for minute in [1999, 2000, 2001, 5000, 100000]:
            self.assertEqual(run_of(self.ROUND, 1, "0 batch b a", f"{minute} till"),
                             ["0 batch b a", "0 begin b x"] + self.passed(1, min(minute, 2000)) + [f"{minute} till"])

    # The step was over at 2001, and that is before now: no minute is passed for it any more.
    def test_a_minute_before_now_does_not_count(self):
        lines = run_of(self.ROUND, 1, "0 batch b a", "2500 till", "9000 till", "9000 lot l m 1 1", "9002 till")
        self.assertEqual(lines[4002:], ["2500 till", "9000 till", "9000 lot l m 1 1", "9000 end b x", "9000 begin b x"]
                         + self.passed(9001, 9002) + ["9002 till"])

    def test_each_passing_begins_anew(self):
        lines = run_of(self.ROUND, 1, "0 batch b a", "2000 till", "4000 till", "6001 till")
        self.assertEqual(lines, ["0 batch b a", "0 begin b x"] + self.passed(1, 2000) + ["2000 till"]
                         + self.passed(2001, 4000) + ["4000 till"] + self.passed(4001, 6000) + ["6001 till"])


if __name__ == "__main__":
    unittest.main()
