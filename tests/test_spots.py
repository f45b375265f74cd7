"""The works as a whole: kinds 8, 6 and 7, their order, and the spots of recipes."""

import unittest

from helper import BOOK, named, steps, told, works_of, wrong_works

NO_TEXT = wrong_works(0, 8)
EITHER = wrong_works(0, 6)
UNSOUND = wrong_works(0, 7)

# Both of 11 steps (23 spots) and of 11 steps and an again (26 spots) have 23 * 26 spots, and two
# more stand before and behind them: 600. An empty recipe that's used in front makes 601.
SIX_HUNDRED = f"both {steps(11, 'a')} and {steps(11, 'b')} again until c end end"


def of_units(recipes, *lines):
    return works_of(recipes, told(lines))


class Order(unittest.TestCase):

    def test_the_recipes_go_before_wrong_lines(self):
        self.assertEqual(works_of("recipe a", "bad"), NO_TEXT)
        self.assertEqual(works_of("", "bad"), NO_TEXT)
        self.assertEqual(works_of("recipe a" + " do x" * 31 + " end", "bad"), NO_TEXT)

    def test_the_recipes_go_before_an_either(self):
        self.assertEqual(works_of("recipe a either or end" + " do x" * 28 + " end", ""), NO_TEXT)
        self.assertEqual(works_of("recipe a either or end end recipe a end", ""), NO_TEXT)

    def test_wrong_lines_go_before_an_either(self):
        recipes = "recipe a either do x or do y end end"
        self.assertEqual(works_of(recipes, ""), EITHER)
        self.assertEqual(works_of(recipes, "unit u 1\nbad\n"), wrong_works(2, 1))
        self.assertEqual(works_of(recipes, "unit u 1\ntake z u 1\n"), wrong_works(2, 3))
        self.assertEqual(works_of(recipes, "unit u 1\ntake x u 1\ntake x u 1\n"), wrong_works(3, 2))
        self.assertEqual(works_of(recipes, "vessel v 1\npour y v v 1\n"), wrong_works(2, 4))

    def test_wrong_lines_go_before_kind_7(self):
        lines = ["unit u 1", "take x u 1"]
        self.assertEqual(of_units("recipe a do x end", *lines), UNSOUND)
        self.assertEqual(of_units("recipe a do x end", *lines, "unit u 1"), wrong_works(3, 2))
        self.assertEqual(of_units("recipe a do x end", *lines, "", "claim a v 1"), wrong_works(4, 3))

    def test_an_either_goes_before_kind_7(self):
        recipes = "recipe a do x end recipe b either do x or do y end end"
        self.assertEqual(of_units(recipes, "unit u 1", "take x u 1"), EITHER)
        self.assertEqual(of_units(recipes, "unit u 1", "claim a u 2"), EITHER)

    def test_an_either_anywhere(self):
        for body in ["either or end", "if c then either or end else end", "if c then else either or end end",
                     "both do x and either or end end", "again either or end until c end"]:
            self.assertEqual(works_of(f"recipe a {body} end", ""), EITHER, body)
            self.assertEqual(works_of(f"recipe b end recipe a do x {body} end recipe d end", ""), EITHER, body)


class Ends(unittest.TestCase):

    def test_what_is_taken_is_given(self):
        self.assertEqual(of_units("recipe a do x end", "unit u 2", "claim a u 2", "take x u 2", "give x u 2"),
                         [1, 0, 0, 1, 0])
        self.assertEqual(of_units("recipe a do x do y end", "unit u 2", "claim a u 1", "take x u 1", "give y u 1"),
                         [1, 0, 0, 1, 0])

    # At the end nothing is held, so it is the end of x alone that is wrong.
    def test_an_end_gives_more_than_is_held(self):
        lines = ["unit u 2", "claim a u 2", "take y u 1", "give x u 1"]
        self.assertEqual(of_units("recipe a do y do x end", *lines)[0], 1)
        self.assertEqual(of_units("recipe a do x do y end", *lines), UNSOUND)

    def test_an_end_gives_more_in_one_turn_of_events(self):
        lines = ["unit u 2", "claim a u 2", "take y u 1", "give x u 1"]
        self.assertEqual(of_units("recipe a both do y and do x end end", *lines), UNSOUND)
        self.assertEqual(of_units("recipe a if c then do x do y else do y do x end end", *lines), UNSOUND)
        self.assertEqual(of_units("recipe a if c then do y do x else do y do x end end", *lines)[0], 1)

    def test_more_is_given_of_one_unit_while_another_is_held(self):
        lines = ["unit u 2", "unit v 2", "claim a u 2", "claim a v 2", "take x u 2", "give x v 1", "take y v 1",
                 "give y u 2"]
        self.assertEqual(of_units("recipe a do x do y end", *lines), UNSOUND)

    def test_something_is_held_at_the_end(self):
        lines = ["unit u 3", "claim a u 3", "take x u 2"]
        self.assertEqual(of_units("recipe a do x end", *lines), UNSOUND)
        self.assertEqual(of_units("recipe a do x end", *lines, "give x u 1"), UNSOUND)
        self.assertEqual(of_units("recipe a do x end", *lines, "give x u 2")[0], 1)
        self.assertEqual(of_units("recipe a do x end", *lines, "give x u 3"), UNSOUND)

    def test_something_is_held_at_the_end_of_one_way(self):
        lines = ["unit u 3", "claim a u 3", "take x u 1", "give y u 1"]
        for body, right in [("do x if c then do y else end", False), ("do x if c then else do y end", False),
                            ("do x if c then do y else do y end", True), ("if c then do x do y else end", True),
                            ("if c then do x else end if c then do y else end", False),
                            ("both do x and end do y", True), ("both do x and do y end", False)]:
            answered = of_units(f"recipe a {body} end", *lines)
            self.assertEqual(answered, [1, 0, 0, 1, 0] if right else UNSOUND, body)

    # The body is done again and again, so what it takes and does not give adds up.
    def test_units_add_up_in_an_again(self):
        lines = ["unit u 9", "claim a u 9", "take x u 1", "give y u 1"]
        self.assertEqual(of_units("recipe a again do x until c end end", *lines[:3]), UNSOUND)
        self.assertEqual(of_units("recipe a again do x do y until c end end", *lines)[0], 1)
        self.assertEqual(of_units("recipe a do x again do y do x until c end do y end", *lines)[0], 1)
        self.assertEqual(of_units("recipe a do x again do y until c end end", *lines), UNSOUND)
        self.assertEqual(of_units("recipe a again do z until c end do x do y end", *lines)[0], 1)


class Claims(unittest.TestCase):

    def test_no_more_is_held_than_claimed(self):
        lines = ["unit u 9", "take x u 2", "give x u 2"]
        for claim, right in [(1, False), (2, True), (3, True), (9, True)]:
            answered = of_units("recipe a do x end", *lines, f"claim a u {claim}")
            self.assertEqual(answered, [1, 0, 0, 1, 0] if right else UNSOUND, claim)

    def test_where_no_claim_is_told_nothing_may_be_held(self):
        lines = ["unit u 9", "take x u 1", "give x u 1"]
        self.assertEqual(of_units("recipe a do x end", *lines), UNSOUND)
        self.assertEqual(of_units("recipe a do y end recipe b do x end", *lines, "claim a u 1"), UNSOUND)
        self.assertEqual(of_units("recipe a do y end recipe b do x end", *lines, "claim b u 1")[0], 2)

    def test_each_unit_has_its_own_claim(self):
        lines = ["unit u 9", "unit v 9", "take x u 1", "give x u 1", "take x v 2", "give x v 2"]
        self.assertEqual(of_units("recipe a do x end", *lines, "claim a u 2", "claim a v 1"), UNSOUND)
        self.assertEqual(of_units("recipe a do x end", *lines, "claim a u 1", "claim a v 2")[0], 1)

    def test_steps_side_by_side_hold_together(self):
        lines = ["unit u 9", "take x u 2", "give x u 2", "take y u 3", "give y u 3"]
        for body, most in [("do x do y", 3), ("both do x and do y end", 5), ("both do x and do x and do y end", 7),
                           ("if c then do x else do y end", 3), ("again do x until c end do y", 3),
                           ("both do x do y and do x end", 5), ("both again do x until c end and do x end do y", 4)]:
            recipes = f"recipe a {body} end"
            self.assertEqual(of_units(recipes, *lines, f"claim a u {most}")[0], 1, body)
            self.assertEqual(of_units(recipes, *lines, f"claim a u {most - 1}"), UNSOUND, body)

    # What a step takes is held from its begin on, before it gives.
    def test_what_is_held_while_a_step_is_begun(self):
        lines = ["unit u 9", "take x u 2", "give y u 5", "take y u 3"]
        self.assertEqual(of_units("recipe a do x do y end", *lines, "claim a u 5")[0], 1)
        self.assertEqual(of_units("recipe a do x do y end", *lines, "claim a u 4"), UNSOUND)

    def test_a_claim_is_no_more_than_there_is(self):
        for there_are, claim, right in [(2, 2, True), (2, 3, False), (2, 1, True), (99, 99, True), (98, 99, False)]:
            answered = of_units("recipe a do x end", f"unit u {there_are}", f"claim a u {claim}")
            self.assertEqual(answered, [1, 0, 0, 1, 0] if right else UNSOUND)

    def test_a_claim_of_any_recipe_and_any_unit(self):
        recipes = "recipe a end recipe b end recipe c end"
        for recipe in "abc":
            for unit in ["u", "v"]:
                self.assertEqual(of_units(recipes, "unit u 3", "unit v 3", f"claim {recipe} {unit} 4"), UNSOUND)
                self.assertEqual(of_units(recipes, "unit u 3", "unit v 3", f"claim {recipe} {unit} 3")[0], 3)
        self.assertEqual(of_units(recipes, "unit u 3", "unit v 4", "claim a u 4"), UNSOUND)
        self.assertEqual(of_units(recipes, "unit u 3", "unit v 4", "claim a v 4")[0], 3)

    def test_a_wrong_recipe_anywhere(self):
        lines = ["unit u 1", "claim b u 1", "take x u 1"]
        for recipes, right in [("recipe a end recipe b do x end recipe c end", False),
                               ("recipe b do x end recipe a end", False),
                               ("recipe a end recipe b end recipe c do y if d then do x else end end", False),
                               ("recipe a end recipe b do y end recipe c do x do x end", False)]:
            self.assertEqual(of_units(recipes, *lines), UNSOUND, recipes)

    def test_used_recipes_hold_too(self):
        lines = ["unit u 2", "claim a u 1", "take x u 1", "give x u 1"]
        recipes = "recipe a do x end recipe b use a end"
        self.assertEqual(of_units(recipes, *lines), UNSOUND)
        self.assertEqual(of_units(recipes, *lines, "claim b u 1")[0], 2)
        self.assertEqual(of_units("recipe a do x end recipe b both use a and use a end end", *lines, "claim b u 1"),
                         UNSOUND)
        self.assertEqual(of_units("recipe a do x end recipe b both use a and use a end end", *lines, "claim b u 2")[0],
                         2)


class HowManySpots(unittest.TestCase):

    def test_six_hundred_spots(self):
        self.assertEqual(works_of(f"recipe e end recipe a {SIX_HUNDRED} end", "")[0], 2)
        self.assertEqual(works_of(f"recipe e end recipe a use e {SIX_HUNDRED} end", ""), UNSOUND)
        self.assertEqual(works_of(f"recipe e end recipe a {SIX_HUNDRED} use e end", ""), UNSOUND)

    def test_spots_in_any_recipe(self):
        self.assertEqual(works_of(f"recipe a {SIX_HUNDRED} end recipe b use a end", "")[0], 2)
        self.assertEqual(works_of(f"recipe a {SIX_HUNDRED} end recipe b do x use a end", ""), UNSOUND)
        self.assertEqual(works_of(f"recipe a {SIX_HUNDRED} do x end recipe b do y end", ""), UNSOUND)

    def test_far_more_spots(self):
        bodies = " and ".join(["do x"] * 15)
        self.assertEqual(works_of(f"recipe a both {bodies} end end", ""), UNSOUND)
        bodies = " and ".join(["do x"] * 5)
        self.assertEqual(works_of(f"recipe a both {bodies} end end", "")[0], 1)
        bodies = " and ".join(["do x"] * 6)
        self.assertEqual(works_of(f"recipe a both {bodies} end end", ""), UNSOUND)

    # Where one place is come to with unlike holdings, one of them is wrong further on.
    def test_what_is_held_tells_spots_apart(self):
        lines = ["unit u 2", "claim a u 2", "take t u 1", "give g u 1"]
        self.assertEqual(of_units("recipe a if c then do t else end do g end", *lines), UNSOUND)
        self.assertEqual(of_units("recipe a if c then else do t end do g end", *lines), UNSOUND)
        self.assertEqual(of_units("recipe a if c then do t do g else end do t do g end", *lines)[0], 1)

    def test_units_that_are_given_back_make_no_more_spots(self):
        lines = ["unit u 9", "claim a u 9", "take a0 u 4", "give a10 u 4", "take b3 u 5", "give b4 u 5"]
        self.assertEqual(of_units(f"recipe a {SIX_HUNDRED} end", *lines)[0], 1)

    def test_conditions_are_answered_either_way(self):
        lines = ["unit u 1", "claim a u 1", "take x u 1"]
        self.assertEqual(of_units("recipe a if c then do x else end end", *lines), UNSOUND)
        self.assertEqual(of_units("recipe a if c then else do x end end", *lines), UNSOUND)
        self.assertEqual(of_units("recipe a again until c end do x end", *lines), UNSOUND)

    def test_ten_recipes_with_many_spots(self):
        recipes = f"recipe a {SIX_HUNDRED} end " + " ".join([f"recipe {name} use a end" for name in named("r", 9)])
        units = [f"unit u{k} 1" for k in range(6)]
        self.assertEqual(of_units(recipes, *units), [10, 0, 0, 6, 0])

    def test_the_book_of_the_other_tests_is_right(self):
        self.assertEqual(works_of(BOOK, ""), [2, 0, 0, 0, 0])


if __name__ == "__main__":
    unittest.main()
