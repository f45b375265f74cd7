"""Grants: when a step's units can be given, and the order that is told with them."""

import unittest

from helper import named, record_of, told

# Each batch comes to hold two of a unit, one by one, and gives both back at once.
ONE_BY_ONE = "recipe a do x takes 2 to 2 do y takes 2 to 2 do z end"


def one_by_one(there_are):
    return [f"unit u {there_are}", "claim a u 2", "take x u 1", "take y u 1", "give z u 2"]


def day_of(recipes, plant, *orders):
    return record_of(told(orders), recipes, told(plant))


def lines_of(lines, *names):
    """The lines of these words, as they stand: begin, order and so on."""
    return [line for line in lines if line.split()[0] in names or line.split()[1] in names]


class Free(unittest.TestCase):

    def test_so_many_are_free(self):
        recipes = "recipe a do x takes 5 to 5 end"
        for there_are, begun in [(2, 1), (3, 1), (4, 2), (5, 2), (6, 3)]:
            plant = [f"unit u {there_are}", "claim a u 2", "take x u 2", "give x u 2"]
            lines = day_of(recipes, plant, *[f"0 batch {name} a" for name in named("b", 3)])
            self.assertEqual(len(lines_of(lines, "begin")), begun)
            self.assertEqual(len(lines_of(lines, "order")), begun)

    def test_so_many_of_each_unit(self):
        recipes = "recipe a do x takes 5 to 5 end"
        plant = ["unit u 4", "unit v 1", "unit w 9", "claim a u 2", "claim a v 1", "take x u 2", "take x v 1",
                 "give x u 2", "give x v 1"]
        self.assertEqual(day_of(recipes, plant, "0 batch b a", "1 batch c a", "5 till"),
                         ["0 batch b a", "0 begin b x", "order b", "1 batch c a", "5 end b x", "5 done b",
                          "5 begin c x", "order c", "5 till"])

    def test_units_are_held_from_begin_to_end_and_no_longer(self):
        recipes = "recipe a do x takes 5 to 5 do y takes 5 to 5 end"
        plant = ["unit u 1", "claim a u 1", "take x u 1", "give x u 1"]
        self.assertEqual(day_of(recipes, plant, "0 batch b a", "0 batch c a", "9 till"),
                         ["0 batch b a", "0 begin b x", "order b", "0 batch c a", "5 end b x", "5 begin b y",
                          "5 begin c x", "order c b", "9 till"])

    def test_units_are_held_by_a_batch_between_its_steps(self):
        recipes = "recipe a do x takes 1 to 1 do y takes 5 to 5 do z takes 1 to 1 end"
        plant = ["unit u 1", "claim a u 1", "take x u 1", "give z u 1"]
        self.assertEqual(day_of(recipes, plant, "0 batch b a", "0 batch c a", "7 till"),
                         ["0 batch b a", "0 begin b x", "order b", "0 batch c a", "1 end b x", "1 begin b y",
                          "6 end b y", "6 begin b z", "7 end b z", "7 done b", "7 begin c x", "order c", "7 till"])

    def test_what_is_given_in_part(self):
        recipes = "recipe a do x takes 2 to 2 do y takes 2 to 2 end"
        plant = ["unit u 3", "claim a u 2", "take x u 2", "give x u 1", "give y u 1"]
        self.assertEqual(day_of(recipes, plant, "0 batch b a", "0 batch c a", "4 till"),
                         ["0 batch b a", "0 begin b x", "order b", "0 batch c a", "2 end b x", "2 begin b y",
                          "2 begin c x", "order c b", "4 end b y", "4 done b", "4 end c x", "4 begin c y", "4 till"])

    def test_a_step_that_takes_nothing_is_written_without_an_order(self):
        recipes = "recipe a do x takes 3 to 3 do y takes 3 to 3 end"
        plant = ["unit u 1", "claim a u 1", "take x u 1", "give y u 1"]
        self.assertEqual(day_of(recipes, plant, "0 batch b a", "6 till"),
                         ["0 batch b a", "0 begin b x", "order b", "3 end b x", "3 begin b y", "6 end b y", "6 done b",
                          "6 till"])


class Safe(unittest.TestCase):

    # One is free at 0, but were it given all three would hold one of three and want another.
    def test_a_step_waits_though_enough_is_free(self):
        self.assertEqual(day_of(ONE_BY_ONE, one_by_one(3), "0 batch b a", "0 batch c a", "0 batch d a", "4 till"),
                         ["0 batch b a", "0 begin b x", "order b", "0 batch c a", "0 begin c x", "order b c",
                          "0 batch d a", "2 end b x", "2 begin b y", "order b c d", "2 end c x", "4 end b y",
                          "4 begin b z", "4 end b z", "4 done b", "4 begin c y", "order c d", "4 begin d x",
                          "order c d", "4 till"])

    def test_the_last_number_of_units_that_is_not_safe(self):
        for there_are, begun in [(2, 1), (3, 2), (4, 3), (5, 4), (6, 5), (7, 6), (8, 7), (9, 8), (10, 8)]:
            lines = day_of(ONE_BY_ONE, one_by_one(there_are), *[f"0 batch {name} a" for name in named("b", 8)])
            self.assertEqual(len(lines_of(lines, "begin")), begun, there_are)

    # Two units that are taken in unlike orders: the second batch may not take what the first wants.
    def test_units_that_are_taken_crosswise(self):
        recipes = "recipe a do x takes 2 to 2 do y takes 2 to 2 do g end recipe c do y do x do g end"
        plant = ["unit u 1", "unit v 1", "claim a u 1", "claim a v 1", "claim c u 1", "claim c v 1", "take x u 1",
                 "take y v 1", "give g u 1", "give g v 1"]
        self.assertEqual(day_of(recipes, plant, "0 batch b a", "0 batch d c", "8 till"),
                         ["0 batch b a", "0 begin b x", "order b", "0 batch d c", "2 end b x", "2 begin b y",
                          "order b d", "4 end b y", "4 begin b g", "4 end b g", "4 done b", "4 begin d y", "order d",
                          "6 end d y", "6 begin d x", "order d", "8 end d x", "8 begin d g", "8 end d g", "8 done d",
                          "8 till"])

    # What a batch may claim counts, not what it will take on the way that it goes.
    def test_the_claim_counts(self):
        recipes = "recipe a do x takes 5 to 5 end recipe c do x takes 5 to 5 end"
        plant = ["unit u 3", "take x u 1", "give x u 1"]
        for claim, begun in [(1, 3), (2, 2), (3, 1)]:
            lines = day_of(recipes, plant + [f"claim a u {claim}", "claim c u 1"],
                           "0 batch b a", "0 batch d a", "0 batch e a")
            self.assertEqual(len(lines_of(lines, "begin")), begun, claim)
        self.assertEqual(lines_of(day_of(recipes, plant + ["claim a u 3", "claim c u 1"], "0 batch b a", "0 batch d c",
                                         "0 batch e c"), "begin", "order"),
                         ["0 begin b x", "order b", "0 begin d x", "order d b", "0 begin e x", "order d e b"])

    # Enough is free for y, but then b would want one, d another, and none would be free.
    def test_a_step_of_the_same_batch_that_is_safe_begins_instead(self):
        recipes = "recipe a do x takes 9 to 9 do g end " \
                  "recipe c both do y takes 9 to 9 and do z takes 9 to 9 end do h end"
        plant = ["unit u 2", "unit v 1", "claim a u 2", "claim c u 2", "claim c v 1", "take x u 1", "take y u 1",
                 "take z v 1", "give g u 1", "give h u 1", "give h v 1"]
        self.assertEqual(day_of(recipes, plant, "0 batch b a", "0 batch d c", "5 till"),
                         ["0 batch b a", "0 begin b x", "order b", "0 batch d c", "0 begin d z", "order b d",
                          "5 till"])
        self.assertEqual(day_of(recipes, plant + ["claim a v 1"], "0 batch b a", "0 batch d c", "5 till"),
                         ["0 batch b a", "0 begin b x", "order b", "0 batch d c", "5 till"])

    # When b is ended two are free, not the three of its claim and what is free now, and c wants three.
    def test_what_a_batch_holds_gets_free_and_no_more(self):
        recipes = "recipe a do x takes 9 to 9 do g end recipe c do x do g end"
        plant = ["unit u 4", "claim a u 2", "take x u 1", "give g u 1"]
        for claim, begun in [(3, 3), (4, 2)]:
            lines = day_of(recipes, plant + [f"claim c u {claim}"], "0 batch b a", "0 batch c c", "0 batch d c")
            self.assertEqual(len(lines_of(lines, "begin")), begun)

    # More is given back than the claim leaves: the batch may then want it again.
    def test_what_is_given_back_may_be_claimed_again(self):
        recipes = "recipe a do x takes 1 to 1 do y takes 1 to 1 do x do y end"
        plant = ["unit u 3", "claim a u 2", "take x u 2", "give y u 2"]
        self.assertEqual(lines_of(day_of(recipes, plant, "0 batch b a", "1 batch c a", "20 till"), "begin", "done"),
                         ["0 begin b x", "1 begin b y", "2 begin b x", "3 begin b y", "4 done b", "4 begin c x",
                          "5 begin c y", "6 begin c x", "7 begin c y", "8 done c"])

    def test_nothing_ever_locks(self):
        for there_are in [2, 3, 4, 7]:
            lines = day_of(ONE_BY_ONE, one_by_one(there_are), *[f"0 batch {name} a" for name in named("b", 8)],
                           "999 till")
            self.assertEqual(len(lines_of(lines, "done")), 8, there_are)


class Told(unittest.TestCase):

    # b wants two and one is free, c wants one: c, then b from the first again, then d.
    def test_the_first_that_can_be_ended_again_and_again(self):
        recipes = "recipe a do x takes 9 to 9 do g end recipe c do w takes 1 to 1 do y takes 9 to 9 do g end " \
                  "recipe e do w do y do g end"
        plant = ["unit u 3", "claim a u 3", "claim c u 2", "claim e u 1", "take x u 1", "take y u 1", "give g u 1"]
        lines = day_of(recipes, plant, "0 batch b a", "0 batch c c", "0 batch d e", "1 till")
        self.assertEqual(lines_of(lines, "order"), ["order b", "order c b d", "order d c b"])

    def test_all_that_can_be_ended_come_as_they_were_begun(self):
        recipes = "recipe a do w takes 1 to 1 do x takes 1 to 1 end"
        plant = ["unit u 9", "claim a u 1", "take x u 1", "give x u 1"]
        lines = day_of(recipes, plant, *[f"0 batch {name} a" for name in ["c", "a", "d", "b"]], "1 till")
        self.assertEqual(lines_of(lines, "order"), ["order c a d b"] * 4)

    def test_batches_that_claim_nothing_are_told_too(self):
        recipes = "recipe a do w takes 9 to 9 end recipe c do x takes 9 to 9 end"
        plant = ["unit u 1", "claim c u 1", "take x u 1", "give x u 1"]
        lines = day_of(recipes, plant, "0 batch b a", "0 batch c c", "0 batch d a", "0 batch e c", "9 till")
        self.assertEqual(lines_of(lines, "order"), ["order b c", "order e"])
        lines = day_of(recipes, plant, "0 batch b a", "0 batch c c", "1 batch d a", "1 batch e c", "9 till")
        self.assertEqual(lines_of(lines, "order"), ["order b c", "order d e"])

    def test_batches_that_are_done_or_refused_are_not_told(self):
        recipes = "recipe a do w end recipe c do x takes 1 to 1 end recipe e do v takes 99 to 99 end"
        plant = ["unit u 1", "claim c u 1", "take x u 1", "give x u 1"]
        orders = ["0 batch b a"] + [f"0 batch {name} e" for name in named("f", 7)] + ["0 batch c c", "0 batch d c"]
        lines = day_of(recipes, plant, *orders)
        self.assertEqual(lines_of(lines, "order", "refused"), ["order f0 f1 f2 f3 f4 f5 f6 c", "0 refused d"])

    # One that holds all it claims can be ended with nothing free.
    def test_one_that_holds_all_it_claims(self):
        recipes = "recipe a do x takes 9 to 9 end recipe c do w takes 1 to 1 do y takes 9 to 9 end"
        plant = ["unit u 2", "unit v 1", "claim a u 2", "claim c v 1", "claim c u 1", "take x u 2", "give x u 2",
                 "take y v 1", "give y v 1"]
        lines = day_of(recipes, plant, "0 batch b c", "0 batch d a", "1 till")
        self.assertEqual(lines_of(lines, "order"), ["order d b", "order d b"])


if __name__ == "__main__":
    unittest.main()
