"""Reports: the time, what is left of lots, what is in vessels, which units are free, and the batches."""

import unittest

from batchworks.works import report
from helper import BOOK, PLANT, answer, as_bytes, named, record_of, report_of, told, wrong_day, wrong_works

UNITS = ["unit u 3", "unit k 2"]


def reported(word, recipes, plant, *orders):
    """The report's lines that begin with this word."""
    lines = report_of(told(orders), recipes, told(plant))
    return [line for line in lines if line.split()[0] == word]


class Ordinary(unittest.TestCase):

    def test_a_report_to_the_line(self):
        day = ["0 lot a malt 15 3", "1 batch p brew", "2 batch q brew", "3 batch r rinse", "8 lot b malt 25 100",
               "9 say p smooth yes", "10 till"]
        self.assertEqual(report_of(told(day)),
                         ["time 10", "lot a 15", "lot b 15", "vessel tun 10", "vessel vat 0", "unit worker 1",
                          "batch q under way heat", "batch r done 1", "batch p done 4"])

    def test_the_text_that_is_answered(self):
        text = "time 7\nvessel tun 0\nvessel vat 0\nunit worker 3\n"
        self.assertEqual(answer(report, BOOK, PLANT, "7 till"), [len(text)] + as_bytes(text))
        self.assertEqual(answer(report, BOOK, "", "7 till"), [7, 116, 105, 109, 101, 32, 55, 10])

    def test_a_day_without_orders(self):
        for day in ["", "\n", " \n\n "]:
            self.assertEqual(report_of(day), ["time 0", "vessel tun 0", "vessel vat 0", "unit worker 3"])
            self.assertEqual(report_of(day, plant=""), ["time 0"])

    def test_the_order_of_lines(self):
        plant = ["unit u 1", "vessel v 5", "stuff m", "unit k 2", "vessel a 6", "stuff n"]
        orders = ["0 batch p e", "0 lot z m 3 1", "0 batch q c", "1 lot b n 4 0", "1 batch h e", "1 batch g c"]
        self.assertEqual(report_of(told(orders), "recipe e end recipe c if d then else end end", told(plant)),
                         ["time 1", "lot z 3", "lot b 4", "vessel v 0", "vessel a 0", "unit u 1", "unit k 2",
                          "batch q under way", "batch g under way", "batch p done 0", "batch h done 0"])

    def test_names_of_all_kinds_may_be_alike(self):
        plant = ["stuff a", "vessel a 9", "unit a 2", "claim a a 1", "take a a 1", "give a a 1", "charge a a a 1"]
        orders = ["0 lot a a 5 9", "0 batch a a", "0 till"]
        recipes = "recipe a do a takes 1 to 1 if a then else end end"
        self.assertEqual(report_of(told(orders), recipes, told(plant)),
                         ["time 0", "lot a 5", "vessel a 0", "unit a 1", "batch a under way a"])
        self.assertEqual(report_of(told(orders + ["1 till"]), recipes, told(plant)),
                         ["time 1", "lot a 4", "vessel a 1", "unit a 2", "batch a under way"])


class Time(unittest.TestCase):

    def test_the_minute_of_the_last_order(self):
        for minute in [0, 1, 99999, 100000]:
            for order in ["till", "lot l m 5 9", "batch b r", "say c d yes"]:
                lines = reported("time", "recipe r do x takes 9 to 9 if d then else end end", ["stuff m"],
                                 "0 batch c r", f"{minute} {order}")
                self.assertEqual(lines, [f"time {minute}"], order)

    def test_an_order_that_is_refused_or_unheard_is_one_too(self):
        orders = [f"0 batch {name} r" for name in named("b", 8)]
        recipes = "recipe r if c then else end end"
        self.assertEqual(reported("time", recipes, [], *orders, "6 batch c r"), ["time 6"])
        self.assertEqual(reported("time", recipes, [], *orders, "6 batch c r", "8 say c c no"), ["time 8"])

    # What gets over later than the last order's minute isn't waited for.
    def test_a_step_that_is_not_over_yet(self):
        for minute, line in [(6, "batch b under way x"), (7, "batch b done 1"), (8, "batch b done 1")]:
            self.assertEqual(report_of(told(["0 batch b r", f"{minute} till"]), "recipe r do x takes 7 to 9 end", ""),
                             [f"time {minute}", line])


class Lots(unittest.TestCase):

    def left(self, amount, *lots):
        return reported("lot", "recipe r do x end", ["stuff m", "stuff n", "vessel v 99", f"charge x v m {amount}"],
                        *lots, "5 batch b r", "50 till")

    def test_not_at_all_in_part_and_used_up(self):
        for amount, left in [(1, 7), (7, 1), (8, 0), (9, 8)]:
            self.assertEqual(self.left(amount, "0 lot l m 8 9"), [f"lot l {left}"])

    def test_several_lots(self):
        lots = ["0 lot z m 8 9", "1 lot a n 4 9", "2 lot k m 3 7", "3 lot b m 2 80"]
        for amount, z, k, b in [(2, 8, 1, 2), (3, 8, 0, 2), (5, 6, 0, 2), (11, 0, 0, 2), (12, 0, 0, 1), (13, 0, 0, 0),
                                (14, 8, 3, 2)]:
            self.assertEqual(self.left(amount, *lots), [f"lot z {z}", "lot a 4", f"lot k {k}", f"lot b {b}"])

    def test_lots_that_are_over_are_told_as_well(self):
        self.assertEqual(self.left(2, "0 lot k m 8 4", "0 lot l m 6 5"), ["lot k 8", "lot l 4"])
        self.assertEqual(self.left(2, "0 lot k m 8 4", "0 lot l m 1 5"), ["lot k 8", "lot l 1"])
        self.assertEqual(self.left(2, "0 lot k m 8 0"), ["lot k 8"])

    def test_what_could_not_be_done_drew_nothing(self):
        plant = ["stuff m", "vessel v 9", "charge x v m 4", "charge x v m 7"]
        self.assertEqual(reported("lot", "recipe r do x end", plant, "0 lot l m 10 9", "0 batch b r"), ["lot l 10"])

    def test_forty_lots(self):
        lots = [f"0 lot l{k} m {k + 1} 9" for k in range(40)]
        self.assertEqual(self.left(5, *lots), ["lot l0 0", "lot l1 0", "lot l2 1"]
                         + [f"lot l{k} {k + 1}" for k in range(3, 40)])

    def test_the_greatest_amounts(self):
        self.assertEqual(self.left(1, "0 lot l m 1000000 100000", "0 lot k n 1000000 0"), ["lot l 999999",
                                                                                           "lot k 1000000"])


class Vessels(unittest.TestCase):

    def held(self, *doings):
        plant = ["stuff m", "stuff n", "vessel w 99", "vessel a 99", "vessel v 99"]
        return reported("vessel", "recipe r do x end", plant + list(doings), "0 lot k m 40 9", "0 lot l n 40 9",
                        "1 batch b r")

    def test_how_much_there_is(self):
        for doings, w, a, v in [([], 0, 0, 0), (["charge x v m 7"], 0, 0, 7),
                                (["charge x w m 7", "charge x w n 5", "charge x a m 1"], 12, 1, 0),
                                (["charge x w m 7", "charge x w n 5", "pour x w v 4"], 8, 0, 4),
                                (["charge x w m 7", "charge x w n 5", "pour x w v 12"], 0, 0, 12),
                                (["charge x w m 7", "charge x a n 5", "empty x w a"], 0, 12, 0),
                                (["charge x w m 7", "charge x a n 5", "ship x w"], 0, 5, 0),
                                (["charge x w m 7", "ship x w", "charge x w n 2"], 2, 0, 0),
                                (["charge x w m 7", "charge x w m 40"], 0, 0, 0)]:
            self.assertEqual(self.held(*doings), [f"vessel w {w}", f"vessel a {a}", f"vessel v {v}"], doings)

    # A mixture's parts aren't whole, but all together they are.
    def test_of_mixtures_it_is_whole(self):
        self.assertEqual(self.held("charge x w m 3", "turn x w m n 1 7", "charge x w n 4", "pour x w v 2",
                                   "turn x v n m 2 9", "pour x v a 1"), ["vessel w 5", "vessel a 1", "vessel v 1"])


class Units(unittest.TestCase):

    RECIPES = "recipe a do x takes 2 to 2 do y takes 2 to 2 do z end"
    PLANT = UNITS + ["claim a u 2", "claim a k 2", "take x u 1", "take y u 1", "take y k 2", "give z u 2",
                     "give y k 1", "give z k 1"]

    def free(self, *orders):
        return reported("unit", self.RECIPES, self.PLANT, *orders)

    def test_all_are_free(self):
        self.assertEqual(self.free(), ["unit u 3", "unit k 2"])
        self.assertEqual(self.free("0 till"), ["unit u 3", "unit k 2"])

    def test_some_are_held(self):
        for minute, u, k in [(0, 2, 2), (1, 2, 2), (2, 1, 0), (3, 1, 0), (4, 3, 2), (9, 3, 2)]:
            self.assertEqual(self.free("0 batch b a", f"{minute} till"), [f"unit u {u}", f"unit k {k}"], minute)

    def test_several_batches_hold_them(self):
        for minute, u, k in [(0, 1, 2), (2, 0, 0), (4, 1, 0), (6, 3, 2)]:
            self.assertEqual(self.free("0 batch b a", "0 batch c a", f"{minute} till"), [f"unit u {u}", f"unit k {k}"])

    # Between its steps, and where its last step waits, a batch holds what it took.
    def test_a_batch_holds_them_while_it_waits(self):
        plant = UNITS + ["stuff m", "vessel v 9", "claim a u 2", "take x u 2", "give y u 2", "charge y v m 1"]
        self.assertEqual(reported("unit", "recipe a do x do y end", plant, "0 batch b a", "5 till"),
                         ["unit u 1", "unit k 2"])
        self.assertEqual(reported("unit", "recipe a do x if c then do y else do y end end", plant[:2] + plant[4:7],
                                  "0 batch b a", "5 till"), ["unit u 1", "unit k 2"])


class UnderWay(unittest.TestCase):

    def batches(self, body, *orders, plant=()):
        return reported("batch", f"recipe a {body} end recipe e end", plant, "0 batch b a", *orders)

    def test_no_step_is_begun(self):
        self.assertEqual(self.batches("if c then else end"), ["batch b under way"])
        self.assertEqual(self.batches("do x if c then else end"), ["batch b under way"])
        self.assertEqual(self.batches("both if c then else end and if d then else end end"), ["batch b under way"])

    # c holds the only unit, so b and d have none of their steps begun.
    def test_a_step_that_is_not_granted_is_not_begun(self):
        lines = reported("batch", "recipe a do x takes 5 to 5 end",
                         ["unit u 1", "claim a u 1", "take x u 1", "give x u 1"], "0 batch c a", "0 batch b a",
                         "0 batch d a")
        self.assertEqual(lines, ["batch c under way x", "batch b under way", "batch d under way"])

    def test_one_step_is_begun(self):
        body = "do x takes 2 to 2 do y takes 3 to 3 do z"
        for minute, line in [(0, "under way x"), (1, "under way x"), (2, "under way y"), (4, "under way y"),
                             (5, "done 3")]:
            self.assertEqual(self.batches(body, f"{minute} till"), [f"batch b {line}"])

    def test_several_steps_are_begun(self):
        body = "both do x takes 5 to 5 and do y takes 2 to 2 do z takes 9 to 9 and do w takes 7 to 7 end"
        for minute, steps in [(0, " x y w"), (1, " x y w"), (2, " x w z"), (4, " x w z"), (5, " w z"), (7, " z")]:
            self.assertEqual(self.batches(body, f"{minute} till"), [f"batch b under way{steps}"])
        self.assertEqual(self.batches(body, "11 till"), ["batch b done 4"])

    # Neither by the numbers of moves nor by those of steps.
    def test_they_stand_in_the_order_of_their_beginnings(self):
        body = "both if c then do x takes 9 to 9 else end and if d then do y takes 9 to 9 else end " \
               "and if h then do z takes 9 to 9 else end end"
        for answers, steps in [("cdh", "x y z"), ("hdc", "z y x"), ("dhc", "y z x"), ("hc", "z x"), ("d", "y")]:
            orders = [f"{k} say b {condition} yes" for k, condition in enumerate(answers, start=1)]
            self.assertEqual(self.batches(body, *orders), [f"batch b under way {steps}"])

    def test_one_step_in_several_places(self):
        body = "both do x takes 5 to 5 and do x do x and if c then do x else end end"
        self.assertEqual(self.batches(body), ["batch b under way x x"])
        self.assertEqual(self.batches(body, "3 say b c yes"), ["batch b under way x x x"])
        self.assertEqual(self.batches(body, "3 say b c yes", "5 till"), ["batch b under way x x"])
        self.assertEqual(self.batches(body, "3 say b c yes", "8 till"), ["batch b under way x"])

    def test_a_step_that_waits_for_its_doings_is_begun(self):
        plant = ["stuff m", "vessel v 9", "charge x v m 1"]
        body = "both do x takes 2 to 2 and do y takes 3 to 3 end"
        self.assertEqual(self.batches(body, "9 till", plant=plant), ["batch b under way x"])
        self.assertEqual(self.batches(body, "9 lot l m 1 9", plant=plant), ["batch b done 2"])

    def test_they_stand_by_when_they_were_begun(self):
        orders = ["0 batch z e", "1 batch y a", "1 batch a a", "2 batch m a", "3 say a c yes"]
        self.assertEqual(self.batches("if c then else end", *orders),
                         ["batch b under way", "batch y under way", "batch m under way", "batch z done 0",
                          "batch a done 1"])

    def test_refused_batches_are_in_neither(self):
        orders = [f"0 batch {name} a" for name in named("c", 9)]
        expected = ["batch b under way"] + [f"batch c{k} under way" for k in range(7)]
        self.assertEqual(self.batches("if c then else end", *orders), expected)
        self.assertEqual(self.batches("if c then else end", *orders, "1 batch e e", "2 say c7 c yes"), expected)
        self.assertEqual(self.batches("if c then else end", *orders, "2 say c3 c yes", "3 batch e e"),
                         expected[:4] + expected[5:] + ["batch c3 done 1", "batch e done 0"])


class Done(unittest.TestCase):

    def deeds(self, body, *said, more=""):
        orders = ["0 batch b a"] + [f"0 say b {answer}" for answer in said] + ["9 till"]
        return reported("batch", f"{more} recipe a {body} end", [], *orders)

    def test_steps_and_conditions_count_together(self):
        for body, said, deeds in [("", [], 0), ("do x", [], 1), ("do x do y do x", [], 3),
                                  ("if c then else end", ["c yes"], 1), ("if c then do x do x else end", ["c yes"], 3),
                                  ("if c then do x do x else end", ["c no"], 1),
                                  ("do x if c then do y else end if c then else do z end", ["c yes", "c no"], 5),
                                  ("do x takes 3 to 4 if c then else do y takes 2 to 2 end", ["c no"], 3)]:
            self.assertEqual(self.deeds(body, *said), [f"batch b done {deeds}"], body)

    def test_silent_moves_do_not_count(self):
        for body, said, deeds in [("both and end", [], 0), ("both do x and end", [], 1),
                                  ("both do x and do y and do z end both and and and end", [], 3),
                                  ("again until c end", ["c yes"], 1), ("if c then else end", ["c no"], 1),
                                  ("again both and end until c end", ["c yes"], 1)]:
            self.assertEqual(self.deeds(body, *said), [f"batch b done {deeds}"], body)

    def test_a_loop_that_was_gone_through_again(self):
        for times in range(5):
            said = ["c no"] * times + ["c yes"]
            self.assertEqual(self.deeds("again until c end", *said), [f"batch b done {times + 1}"])
            self.assertEqual(self.deeds("again do x do y until c end", *said), [f"batch b done {3 * (times + 1)}"])
            self.assertEqual(self.deeds("do x again both do y and do z end until c end do x", *said),
                             [f"batch b done {2 + 3 * (times + 1)}"])

    def test_loops_within_one_another(self):
        said = ["c no", "c yes", "d no", "c no", "c no", "c yes", "d yes"]
        self.assertEqual(self.deeds("again again do x until c end do y until d end", *said), ["batch b done 14"])

    # The older answer was never asked for, and a condition of another recipe isn't asked.
    def test_answers_that_were_not_used_do_not_count(self):
        said = ["c yes", "c no", "c yes", "d no", "d yes"]
        self.assertEqual(self.deeds("do w takes 5 to 5 if c then do x else end", *said,
                                    more="recipe z if d then else end end"), ["batch b done 3"])

    def test_used_recipes_count_what_is_in_them(self):
        self.assertEqual(self.deeds("use z do x use z", "c yes", "c no",
                                    more="recipe z do y if c then do x else end end"), ["batch b done 6"])

    def test_they_stand_in_the_order_in_which_they_were_done(self):
        orders = ["0 batch a r", "0 batch b s", "0 batch c r", "0 batch d s", "1 batch e t", "1 say c h yes", "5 till"]
        lines = reported("batch", "recipe r if h then do x else end end recipe s do y takes 3 to 3 end recipe t do z "
                         "takes 1 to 1 end", [], *orders)
        self.assertEqual(lines, ["batch a under way", "batch c done 2", "batch e done 1", "batch b done 1",
                                 "batch d done 1"])

    def test_the_order_is_that_of_the_record(self):
        orders = [f"0 batch {name} r" for name in named("b", 6)]
        orders += [f"{k} say b{name} h yes" for k, name in enumerate([4, 1, 5, 0, 3, 2], start=1)]
        recipes = "recipe r if h then do x else end end"
        done = [line.split()[2] for line in record_of(told(orders), recipes, "") if line.split()[1] == "done"]
        self.assertEqual(done, ["b4", "b1", "b5", "b0", "b3", "b2"])
        self.assertEqual(reported("batch", recipes, [], *orders), [f"batch {name} done 2" for name in done])

    def test_twenty_batches(self):
        orders = [f"0 batch {name} a" for name in named("b", 20)]
        self.assertEqual(reported("batch", "recipe a do x end", [], *orders),
                         [f"batch b{k} done 1" for k in range(20)])


class Refusals(unittest.TestCase):

    def test_no_bytes_go_before_all(self):
        for other in [[-1], [256], [32] * 6001, [10] * 16000]:
            for recipes, plant, day in [(other, "bad", "bad"), ("bad", other, "bad"), ("bad", "bad", other)]:
                self.assertEqual(answer(report, recipes, plant, day), [-1])

    def test_the_works_goes_before_the_day(self):
        self.assertEqual(answer(report, "recipe", "bad", "bad"), wrong_works(0, 8))
        self.assertEqual(answer(report, BOOK, "stuff a\nbad", "bad"), wrong_works(2, 1))
        self.assertEqual(answer(report, "recipe a either or end end", "", "bad"), wrong_works(0, 6))
        self.assertEqual(answer(report, "recipe a do x end", "unit u 1\nclaim a u 2", "bad"), wrong_works(0, 7))
        self.assertEqual(answer(report, BOOK, PLANT, "0 till\nbad"), wrong_day(2, 1))


if __name__ == "__main__":
    unittest.main()
