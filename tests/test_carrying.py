"""Days that are carried out: what is written, and which of the things that can be done is first."""

import unittest

from helper import BOOK, PLANT, named, record_of, told

# A step x that holds the only unit while it is begun.
UNIT = ["unit u 1", "take x u 1", "give x u 1"]


def day_of(recipes, plant, *orders):
    return record_of(told(orders), recipes, told(plant))


class Case(unittest.TestCase):

    def assertDay(self, recipes, plant, orders, expected):
        self.assertEqual(day_of(recipes, plant, *orders), expected)


class Ordinary(Case):

    def test_a_day_to_the_line(self):
        day = ["0 lot first malt 30 900", "2 batch one brew", "9 say one smooth yes", "12 till"]
        self.assertEqual(record_of(told(day)),
                         ["0 lot first malt 30 900", "2 batch one brew", "2 begin one heat", "order one",
                          "7 end one heat", "charge tun first 10", "7 begin one cool", "7 end one cool",
                          "7 begin one stir", "7 end one stir", "9 say one smooth yes", "9 ask one smooth yes",
                          "9 done one", "12 till"])

    def test_a_day_of_two_batches_to_the_line(self):
        day = ["0 lot a malt 15 3", "1 batch p brew", "2 batch q brew", "3 batch r rinse", "8 lot b malt 25 100",
               "9 say p smooth no", "9 say p smooth yes", "20 say r smooth yes", "20 till"]
        self.assertEqual(record_of(told(day)),
                         ["0 lot a malt 15 3", "1 batch p brew", "1 begin p heat", "order p", "2 batch q brew",
                          "3 batch r rinse", "3 begin r flush", "3 end r flush", "3 done r", "8 lot b malt 25 100",
                          "8 end p heat", "charge tun b 10", "8 begin p cool", "8 end p cool", "8 begin p stir",
                          "8 end p stir", "8 begin q heat", "order q p", "9 say p smooth no", "9 ask p smooth no",
                          "9 begin p stir", "9 end p stir", "9 say p smooth yes", "9 ask p smooth yes", "9 done p",
                          "13 end q heat", "charge tun b 10", "13 begin q cool", "13 end q cool", "13 begin q stir",
                          "13 end q stir", "20 unheard r smooth", "20 till"])

    def test_no_orders_write_nothing(self):
        for day in ["", "\n", " \n\n "]:
            self.assertEqual(record_of(day), [])

    def test_till_and_lots_alone(self):
        self.assertEqual(record_of("0 till\n\n  5   lot a malt 7 0\n5 till\n100000 till"),
                         ["0 till", "5 lot a malt 7 0", "5 till", "100000 till"])

    def test_an_empty_recipe_is_done_at_once(self):
        self.assertDay("recipe a end", [], ["3 batch b a"], ["3 batch b a", "3 done b"])
        self.assertDay("recipe a both and end end recipe c use a end", [], ["3 batch b c"], ["3 batch b c", "3 done b"])

    def test_a_step_takes_its_least_time(self):
        for least, greatest, minute in [(0, 9, 4), (1, 1, 5), (7, 1000000, 11), (99996, 99996, 100000)]:
            self.assertDay(f"recipe a do x takes {least} to {greatest} end", [], ["4 batch b a", "100000 till"],
                           ["4 batch b a", "4 begin b x", f"{minute} end b x", f"{minute} done b", "100000 till"])

    def test_a_step_that_gets_over_behind_the_day(self):
        for least in [99997, 1000000]:
            self.assertDay(f"recipe a do x takes {least} to 1000000 end", [], ["4 batch b a", "100000 till"],
                           ["4 batch b a", "4 begin b x", "100000 till"])

    def test_a_step_without_times_takes_none(self):
        self.assertDay("recipe a do x do y end", [], ["4 batch b a"],
                       ["4 batch b a", "4 begin b x", "4 end b x", "4 begin b y", "4 end b y", "4 done b"])

    def test_used_recipes_are_done_in_their_place(self):
        recipes = "recipe a do x takes 2 to 2 end recipe c do y use a do y takes 0 to 0 end"
        self.assertDay(recipes, [], ["0 batch b c", "5 till"],
                       ["0 batch b c", "0 begin b y", "0 end b y", "0 begin b x", "2 end b x", "2 begin b y",
                        "2 end b y", "2 done b", "5 till"])

    def test_names_of_all_kinds_may_be_alike(self):
        recipes = "recipe a do a takes 1 to 1 if a then do b else end end"
        plant = ["stuff a", "vessel a 9", "unit a 1", "claim a a 1", "take a a 1", "give a a 1", "charge a a a 1"]
        self.assertDay(recipes, plant, ["0 lot a a 5 9", "0 batch a a", "1 say a a yes"],
                       ["0 lot a a 5 9", "0 batch a a", "0 begin a a", "order a", "1 end a a", "charge a a 1",
                        "1 say a a yes", "1 ask a a yes", "1 begin a b", "1 end a b", "1 done a"])


class Passing(Case):

    RECIPES = "recipe a do x takes 2 to 2 do y takes 3 to 3 end recipe c do z takes 4 to 4 end"

    def test_minutes_on_the_way_come_one_behind_the_other(self):
        self.assertDay(self.RECIPES, [], ["1 batch b a", "1 batch d c", "9 till"],
                       ["1 batch b a", "1 begin b x", "1 batch d c", "1 begin d z", "3 end b x", "3 begin b y",
                        "5 end d z", "5 done d", "6 end b y", "6 done b", "9 till"])

    def test_the_order_s_minute_is_passed_to_too(self):
        for minute, behind in [(2, []), (3, ["3 end b x", "3 begin b y"]), (5, ["3 end b x", "3 begin b y"]),
                               (6, ["3 end b x", "3 begin b y", "6 end b y", "6 done b"])]:
            self.assertDay(self.RECIPES, [], ["1 batch b a", f"{minute} till"],
                           ["1 batch b a", "1 begin b x"] + behind + [f"{minute} till"])

    def test_every_order_is_passed_to(self):
        for order, written in [("3 till", "3 till"), ("3 say b k yes", "3 unheard b k"),
                               ("3 batch e d", "3 batch e d"), ("3 lot l m 1 1", "3 lot l m 1 1")]:
            self.assertDay("recipe a do x takes 3 to 3 end recipe d if k then else end do y takes 1 to 1 end",
                           ["stuff m"], ["0 batch b a", "0 batch d d", "1 say d k yes", order],
                           ["0 batch b a", "0 begin b x", "0 batch d d", "1 say d k yes", "1 ask d k yes",
                            "1 begin d y", "2 end d y", "2 done d", "3 end b x", "3 done b", written])

    def test_several_steps_get_over_at_one_minute(self):
        recipes = "recipe a do x takes 3 to 3 do y takes 1 to 1 end recipe c do z takes 2 to 2 end"
        self.assertDay(recipes, [], ["1 batch b a", "1 batch d a", "2 batch e c", "4 till"],
                       ["1 batch b a", "1 begin b x", "1 batch d a", "1 begin d x", "2 batch e c", "2 begin e z",
                        "4 end b x", "4 begin b y", "4 end d x", "4 begin d y", "4 end e z", "4 done e", "4 till"])

    def test_a_step_that_waits_for_its_doings_ends_when_the_works_goes_on(self):
        recipes = "recipe a do x takes 3 to 3 end recipe c do y takes 5 to 5 end"
        plant = ["stuff m", "vessel v 9", "charge x v m 2"]
        self.assertDay(recipes, plant, ["0 batch b a", "4 batch d c", "7 lot l m 2 20", "9 till"],
                       ["0 batch b a", "0 begin b x", "4 batch d c", "4 begin d y", "7 lot l m 2 20", "7 end b x",
                        "charge v l 2", "7 done b", "9 end d y", "9 done d", "9 till"])

    def test_a_refused_batch_is_passed_to_as_well(self):
        orders = [f"0 batch {name} a" for name in named("b", 8)]
        lines = day_of("recipe a do x takes 3 to 3 end", [], *orders, "2 batch c a", "3 batch d a", "3 till")
        self.assertEqual(lines[16:19], ["2 refused c", "3 end b0 x", "3 done b0"])
        self.assertEqual(lines[33:], ["3 batch d a", "3 begin d x", "3 till"])


class EarliestBatch(Case):

    def test_of_two_that_wait_the_earlier_is_first(self):
        recipes = "recipe a do x takes 5 to 5 end"
        plant = UNIT + ["claim a u 1"]
        self.assertDay(recipes, plant, ["0 batch z a", "1 batch y a", "1 batch b a", "20 till"],
                       ["0 batch z a", "0 begin z x", "order z", "1 batch y a", "1 batch b a", "5 end z x",
                        "5 done z", "5 begin y x", "order y b", "10 end y x", "10 done y", "10 begin b x", "order b",
                        "15 end b x", "15 done b", "20 till"])

    # What a later batch does may let an earlier one go on before it.
    def test_behind_each_thing_it_is_begun_with_the_earliest_again(self):
        recipes = "recipe a do w takes 3 to 3 do x takes 5 to 5 end recipe c do x do v end"
        plant = UNIT + ["claim a u 1", "claim c u 1"]
        self.assertDay(recipes, plant, ["0 batch b a", "0 batch d c", "9 till"],
                       ["0 batch b a", "0 begin b w", "0 batch d c", "0 begin d x", "order d b", "3 end b w",
                        "5 end d x", "5 begin b x", "order b d", "5 begin d v", "5 end d v", "5 done d", "9 till"])

    def test_an_earlier_batch_does_all_it_can_before_a_later_one(self):
        recipes = "recipe a do x takes 3 to 3 do y do z takes 1 to 1 end"
        self.assertDay(recipes, [], ["0 batch d a", "0 batch b a", "3 till"],
                       ["0 batch d a", "0 begin d x", "0 batch b a", "0 begin b x", "3 end d x", "3 begin d y",
                        "3 end d y", "3 begin d z", "3 end b x", "3 begin b y", "3 end b y", "3 begin b z", "3 till"])


class FirstOfABatch(Case):

    def test_an_end_goes_before_a_begin(self):
        self.assertDay("recipe a both do x and do y end end", [], ["0 batch b a"],
                       ["0 batch b a", "0 begin b x", "0 end b x", "0 begin b y", "0 end b y", "0 done b"])

    # What the end of x lets on (a lower number, and a silent move) waits for the end of y.
    def test_an_end_goes_before_silent_moves_and_asks(self):
        recipes = "recipe a both do x takes 4 to 4 if c then do v else end and do y takes 4 to 4 end end"
        self.assertDay(recipes, [], ["0 batch b a", "1 say b c yes", "4 till"],
                       ["0 batch b a", "0 begin b x", "0 begin b y", "1 say b c yes", "4 end b x", "4 end b y",
                        "4 ask b c yes", "4 begin b v", "4 end b v", "4 done b", "4 till"])

    def test_steps_end_in_the_order_of_their_beginnings(self):
        recipes = "recipe a both do w takes 1 to 1 do x takes 3 to 3 and do y takes 4 to 4 end end"
        self.assertDay(recipes, [], ["0 batch b a", "4 till"],
                       ["0 batch b a", "0 begin b w", "0 begin b y", "1 end b w", "1 begin b x", "4 end b y",
                        "4 end b x", "4 done b", "4 till"])

    def test_a_step_that_is_over_first_ends_first(self):
        recipes = "recipe a both do x takes 5 to 5 and do y takes 3 to 3 end end"
        self.assertDay(recipes, [], ["0 batch b a", "9 till"],
                       ["0 batch b a", "0 begin b x", "0 begin b y", "3 end b y", "5 end b x", "5 done b", "9 till"])

    def test_one_that_can_not_end_lets_another_end_before_it(self):
        recipes = "recipe a both do x takes 2 to 2 and do y takes 3 to 3 and do z takes 3 to 3 end end"
        plant = ["stuff m", "vessel v 9", "charge x v m 1", "empty z v w"]
        plant.insert(2, "vessel w 9")
        self.assertDay(recipes, plant, ["0 batch b a", "4 till", "6 lot l m 1 9"],
                       ["0 batch b a", "0 begin b x", "0 begin b y", "0 begin b z", "3 end b y", "3 end b z",
                        "empty v w", "4 till", "6 lot l m 1 9", "6 end b x", "charge v l 1", "6 done b"])

    # An end may let one end that was begun before it, and that is then the first.
    def test_an_end_lets_an_earlier_one_end(self):
        recipes = "recipe a both do x takes 1 to 1 and do y takes 2 to 2 and do z takes 2 to 2 end end"
        plant = ["stuff m", "vessel v 9", "vessel w 9", "pour x v w 1", "charge y v m 1"]
        self.assertDay(recipes, plant, ["0 lot l m 1 9", "0 batch b a", "2 till"],
                       ["0 lot l m 1 9", "0 batch b a", "0 begin b x", "0 begin b y", "0 begin b z", "2 end b y",
                        "charge v l 1", "2 end b x", "pour v w 1", "2 end b z", "2 done b", "2 till"])

    # Were c asked before the silent moves, it would be the only one that could be.
    def test_silent_moves_go_before_asks(self):
        recipes = "recipe a do w takes 5 to 5 both both if d then else end and end and if c then else end end end"
        self.assertDay(recipes, [], ["0 batch b a", "1 say b c yes", "1 say b d no", "5 till"],
                       ["0 batch b a", "0 begin b w", "1 say b c yes", "1 say b d no", "5 end b w", "5 ask b d no",
                        "5 ask b c yes", "5 done b", "5 till"])

    def test_silent_moves_go_before_begins(self):
        recipes = "recipe a both do x takes 1 to 1 and both do y takes 1 to 1 and do z takes 1 to 1 end end end"
        self.assertDay(recipes, [], ["0 batch b a"],
                       ["0 batch b a", "0 begin b x", "0 begin b y", "0 begin b z"])
        recipes = "recipe a both both do y takes 1 to 1 and do z takes 1 to 1 end and do x takes 1 to 1 end end"
        self.assertDay(recipes, [], ["0 batch b a"],
                       ["0 batch b a", "0 begin b y", "0 begin b z", "0 begin b x"])

    # The last again's silent move leads to x, whose number is less than that of y.
    def test_silent_moves_go_before_begins_of_greater_numbers(self):
        recipes = "recipe a both again do x takes 1 to 1 until c end and do y takes 1 to 1 end end"
        self.assertDay(recipes, [], ["0 batch b a"], ["0 batch b a", "0 begin b x", "0 begin b y"])

    def test_asks_go_before_begins(self):
        recipes = "recipe a do w takes 5 to 5 both do x and if c then else end end end"
        self.assertDay(recipes, [], ["0 batch b a", "1 say b c no", "5 till"],
                       ["0 batch b a", "0 begin b w", "1 say b c no", "5 end b w", "5 ask b c no", "5 begin b x",
                        "5 end b x", "5 done b", "5 till"])

    def test_the_first_ask_by_number(self):
        recipes = "recipe z if c then else if d then else end end end " \
                  "recipe a do w takes 5 to 5 both if d then else end and if c then else end end end"
        for answers in [("c yes", "d no"), ("d no", "c yes")]:
            lines = day_of(recipes, [], "0 batch b a", f"1 say b {answers[0]}", f"2 say b {answers[1]}", "5 till")
            self.assertEqual(lines[4:], ["5 end b w", "5 ask b d no", "5 ask b c yes", "5 done b", "5 till"])

    # By number again's moves stand before those of if, but if can be asked before x is done.
    def test_one_condition_in_two_places(self):
        recipes = "recipe a do w takes 5 to 5 both again do x until c end and if c then do y else end end end"
        for said, behind in [("yes", ["5 begin b y", "5 end b y"]), ("no", [])]:
            self.assertDay(recipes, [], ["0 batch b a", f"1 say b c {said}", "5 till"],
                           ["0 batch b a", "0 begin b w", f"1 say b c {said}", "5 end b w", f"5 ask b c {said}",
                            "5 begin b x", "5 end b x"] + behind + ["5 till"])

    def test_the_first_begin_by_number(self):
        recipes = "recipe z do y takes 1 to 1 end " \
                  "recipe a both do x takes 1 to 1 and do y and do w takes 1 to 1 end end"
        self.assertDay(recipes, [], ["0 batch b a"],
                       ["0 batch b a", "0 begin b x", "0 begin b y", "0 begin b w"])

    def test_a_step_that_is_not_granted_lets_the_next_begin(self):
        recipes = "recipe a both do x takes 4 to 4 and do y takes 4 to 4 end end"
        plant = UNIT + ["claim a u 1"]
        self.assertDay(recipes, plant, ["0 batch b a", "1 batch d a", "8 till"],
                       ["0 batch b a", "0 begin b x", "order b", "0 begin b y", "1 batch d a", "1 begin d y",
                        "4 end b x", "4 end b y", "4 done b", "4 begin d x", "order d", "5 end d y", "8 end d x",
                        "8 done d", "8 till"])

    def test_a_batch_is_done_when_all_its_bodies_are(self):
        recipes = "recipe a both do x takes 1 to 1 and do y takes 3 to 3 and end end"
        self.assertDay(recipes, [], ["0 batch b a", "2 till", "3 till"],
                       ["0 batch b a", "0 begin b x", "0 begin b y", "1 end b x", "2 till", "3 end b y", "3 done b",
                        "3 till"])


class Conditions(Case):

    IF = "recipe a if c then do x takes 1 to 1 else do y takes 1 to 1 end end"
    AGAIN = "recipe a again do x until c end end"

    def test_if(self):
        for said, step in [("yes", "x"), ("no", "y")]:
            self.assertDay(self.IF, [], ["0 batch b a", f"2 say b c {said}", "3 till"],
                           ["0 batch b a", f"2 say b c {said}", f"2 ask b c {said}", f"2 begin b {step}",
                            f"3 end b {step}", "3 done b", "3 till"])

    def test_again_until_yes(self):
        self.assertDay(self.AGAIN, [], ["0 batch b a", "1 say b c no", "2 say b c no", "3 say b c yes"],
                       ["0 batch b a", "0 begin b x", "0 end b x", "1 say b c no", "1 ask b c no", "1 begin b x",
                        "1 end b x", "2 say b c no", "2 ask b c no", "2 begin b x", "2 end b x", "3 say b c yes",
                        "3 ask b c yes", "3 done b"])

    def test_an_answer_is_used_up(self):
        recipes = "recipe a if c then do x else end if c then else do y end end"
        self.assertDay(recipes, [], ["0 batch b a", "1 say b c yes", "2 till", "3 say b c no"],
                       ["0 batch b a", "1 say b c yes", "1 ask b c yes", "1 begin b x", "1 end b x", "2 till",
                        "3 say b c no", "3 ask b c no", "3 begin b y", "3 end b y", "3 done b"])

    def test_an_answer_is_kept_till_it_is_asked(self):
        recipes = "recipe a do w takes 5 to 5 if c then do x else do y end end"
        self.assertDay(recipes, [], ["0 batch b a", "1 say b c no", "9 till"],
                       ["0 batch b a", "0 begin b w", "1 say b c no", "5 end b w", "5 ask b c no", "5 begin b y",
                        "5 end b y", "5 done b", "9 till"])

    def test_a_newer_answer_takes_the_place_of_an_older_one(self):
        recipes = "recipe a do w takes 5 to 5 if c then do x else do y end if c then else end end"
        self.assertDay(recipes, [], ["0 batch b a", "1 say b c no", "2 say b c no", "3 say b c yes", "9 till"],
                       ["0 batch b a", "0 begin b w", "1 say b c no", "2 say b c no", "3 say b c yes", "5 end b w",
                        "5 ask b c yes", "5 begin b x", "5 end b x", "9 till"])

    def test_each_batch_and_condition_has_its_own_answer(self):
        recipes = "recipe a if c then if d then do x else end else do y end end"
        self.assertDay(recipes, [], ["0 batch p a", "0 batch q a", "1 say q c yes", "1 say p d yes", "2 say p c no",
                                     "3 say q d yes"],
                       ["0 batch p a", "0 batch q a", "1 say q c yes", "1 ask q c yes", "1 say p d yes",
                        "2 say p c no", "2 ask p c no", "2 begin p y", "2 end p y", "2 done p", "3 say q d yes",
                        "3 ask q d yes", "3 begin q x", "3 end q x", "3 done q"])

    def test_a_condition_of_another_recipe_is_heard(self):
        recipes = "recipe z if d then else end end " + self.IF
        self.assertDay(recipes, [], ["0 batch b a", "1 say b d yes", "2 say b c yes", "3 say b c yes"],
                       ["0 batch b a", "1 say b d yes", "2 say b c yes", "2 ask b c yes", "2 begin b x", "3 end b x",
                        "3 done b", "3 unheard b c"])

    def test_what_is_said_of_a_batch_that_is_done_is_unheard(self):
        self.assertDay(self.AGAIN, [], ["0 batch b a", "1 say b c yes", "1 say b c no", "9 say b c yes"],
                       ["0 batch b a", "0 begin b x", "0 end b x", "1 say b c yes", "1 ask b c yes", "1 done b",
                        "1 unheard b c", "9 unheard b c"])

    # It is still under way when the minute comes, and done when it is passed to.
    def test_a_batch_that_gets_done_at_the_minute_of_the_say(self):
        recipes = "recipe a do x takes 3 to 3 end recipe z if c then else end end"
        self.assertDay(recipes, [], ["0 batch b a", "3 say b c yes"],
                       ["0 batch b a", "0 begin b x", "3 end b x", "3 done b", "3 unheard b c"])


class UnderWay(Case):

    RECIPES = "recipe a do x takes 5 to 5 if c then else end end recipe z end"

    def test_eight_batches_are_under_way_and_the_ninth_is_refused(self):
        for how_many in [7, 8, 9, 20]:
            lines = day_of(self.RECIPES, [], *[f"0 batch {name} a" for name in named("b", how_many)])
            expected = []
            for k in range(how_many):
                expected += [f"0 batch b{k} a", f"0 begin b{k} x"] if k < 8 else [f"0 refused b{k}"]
            self.assertEqual(lines, expected)

    def test_a_refused_batch_never_begins(self):
        orders = [f"0 batch {name} a" for name in named("b", 9)]
        orders += [f"5 say b{k} c yes" for k in range(9)] + ["5 say b8 c no", "99 till"]
        lines = day_of(self.RECIPES, [], *orders)
        self.assertEqual([line for line in lines if "b8" in line], ["0 refused b8", "5 unheard b8 c", "5 unheard b8 c"])
        self.assertEqual(len([line for line in lines if "done" in line]), 8)

    def test_a_batch_that_is_done_makes_room(self):
        orders = [f"0 batch {name} a" for name in named("b", 8)]
        orders += ["4 batch p z", "5 say b3 c yes", "6 batch q a", "6 batch r z", "7 say b0 c yes", "8 batch s z",
                   "8 batch t z"]
        lines = day_of(self.RECIPES, [], *orders)
        self.assertEqual(lines[16], "4 refused p")
        self.assertEqual(lines[25:], ["5 say b3 c yes", "5 ask b3 c yes", "5 done b3", "6 batch q a", "6 begin q x",
                                      "6 refused r", "7 say b0 c yes", "7 ask b0 c yes", "7 done b0", "8 batch s z",
                                      "8 done s", "8 batch t z", "8 done t"])

    # Eight are under way till the minute is passed to.
    def test_a_batch_that_gets_done_at_the_minute_makes_room(self):
        recipes = "recipe a do x takes 5 to 5 end recipe c do y takes 9 to 9 end"
        orders = ["0 batch b a"] + [f"0 batch {name} c" for name in named("d", 7)]
        self.assertEqual(day_of(recipes, [], *orders, "5 batch e c")[16:],
                         ["5 end b x", "5 done b", "5 batch e c", "5 begin e y"])
        self.assertEqual(day_of(recipes, [], *orders, "4 batch e c")[16:], ["4 refused e"])

    def test_a_batch_that_is_done_at_once_is_under_way_with_seven_others(self):
        orders = [f"0 batch {name} a" for name in named("b", 7)] + [f"1 batch {name} z" for name in named("d", 13)]
        lines = day_of(self.RECIPES, [], *orders)
        self.assertEqual(len([line for line in lines if "done" in line]), 13)

    # The batches' places are those of their beginnings, not of their names or recipes.
    def test_the_order_of_batches(self):
        recipes = "recipe a do x end recipe c do y takes 1 to 1 do x end"
        plant = ["unit u 3", "claim a u 1", "claim c u 1", "take x u 1", "give x u 1"]
        self.assertDay(recipes, plant, ["0 batch z c", "0 batch a c", "0 batch m a", "1 till"],
                       ["0 batch z c", "0 begin z y", "0 batch a c", "0 begin a y", "0 batch m a", "0 begin m x",
                        "order z a m", "0 end m x", "0 done m", "1 end z y", "1 begin z x", "order z a", "1 end z x",
                        "1 done z", "1 end a y", "1 begin a x", "order a", "1 end a x", "1 done a", "1 till"])


class TheBook(Case):

    def test_the_book_of_the_other_tests(self):
        self.assertEqual(record_of("0 batch b rinse\n", BOOK, PLANT),
                         ["0 batch b rinse", "0 begin b flush", "0 end b flush", "0 done b"])


if __name__ == "__main__":
    unittest.main()
