"""Claims: how many spots each recipe can come to, and the most of each unit that is held in one."""

import unittest

from helper import BOOK, PLANT, claims_of, named, steps, told, works_of, wrong_works

# See the tests of spots: 600 of them.
SIX_HUNDRED = f"both {steps(11, 'a')} and {steps(11, 'b')} again until c end end"


def spots(body):
    """How many spots a recipe of this body has in a works without units."""
    answered = claims_of(f"recipe a {body} end", "")
    assert answered[0] == 1 and len(answered) == 2
    return answered[1]


def held(body, *lines):
    """The most that is held of the units u, v and w in a recipe of this body, by the lines of its steps."""
    units = [f"unit {unit} 99" for unit in "uvw"] + [f"claim a {unit} 99" for unit in "uvw"]
    lines = [line for line in lines if f"do {line.split()[1]}" in body]
    answered = claims_of(f"recipe a {body} end", told(units + lines))
    assert answered[0] == 1 and len(answered) == 5
    return answered[2:]


class Ordinary(unittest.TestCase):

    # Of brew: heat, cool and stir with what is before, between and behind them, and a silent move.
    def test_the_book_of_the_other_tests(self):
        self.assertEqual(claims_of(), [2, 9, 2, 3, 0])
        self.assertEqual(claims_of(plant=""), [2, 9, 3])

    def test_works_without_units(self):
        self.assertEqual(claims_of("recipe a end", ""), [1, 2])
        self.assertEqual(claims_of("recipe a do x end", "stuff m\nvessel v 9\ncharge x v m 3\nship x v"), [1, 3])

    def test_several_recipes(self):
        recipes = "recipe a do x end recipe b end recipe c do x do y end recipe d use a use c end"
        self.assertEqual(claims_of(recipes, ""), [4, 3, 2, 5, 7])
        units = ["unit u 9", "unit v 9", "take x u 2", "give x u 2", "take y u 1", "take y v 3", "give y v 3",
                 "give y u 1", "claim a u 2", "claim c u 2", "claim c v 3", "claim d u 9", "claim d v 9"]
        self.assertEqual(claims_of(recipes, told(units)), [4, 3, 2, 0, 2, 0, 0, 5, 2, 3, 7, 2, 3])

    def test_ten_recipes_and_six_units(self):
        recipes = " ".join([f"recipe {name} {steps(k, name)} end" for k, name in enumerate(named("r", 7))])
        units = [f"unit u{k} 3" for k in range(6)]
        expected = [7]
        for k in range(7):
            expected += [2 * k + 1 if k > 0 else 2] + [0] * 6
        self.assertEqual(claims_of(recipes, told(units)), expected)
        ten = " ".join([f"recipe {name} do x end" for name in named("r", 10)])
        lines = units + [f"{word} x u{k} {k % 3 + 1}" for k in range(6) for word in ["take", "give"]]
        lines += [f"claim r{recipe} u{k} 3" for recipe in range(10) for k in range(6)]
        self.assertEqual(claims_of(ten, told(lines)), [10] + [3, 1, 2, 3, 1, 2, 3] * 10)

    # The claim that is told says nothing of what is answered.
    def test_the_claim_itself_is_not_told(self):
        lines = ["unit u 50", "take x u 2", "give x u 2"]
        for claim in [2, 3, 50]:
            self.assertEqual(claims_of("recipe a do x end", told(lines + [f"claim a u {claim}"])), [1, 3, 2])
        self.assertEqual(claims_of("recipe a end", "unit u 9\nclaim a u 9"), [1, 2, 0])


class HowMany(unittest.TestCase):

    def test_an_empty_body_and_steps(self):
        self.assertEqual(spots(""), 2)
        for k in range(1, 31):
            self.assertEqual(spots(" ".join(["do x"] * k)), 2 * k + 1)
            self.assertEqual(spots(steps(k)), 2 * k + 1)

    def test_conditions(self):
        for body, expected in [("if c then else end", 4), ("if c then do x else end", 5),
                               ("if c then do x else do x end", 6), ("if c then do x do y else do z end", 8),
                               ("if c then if d then else end else end", 6), ("do x if c then else end", 6),
                               ("if c then else end if c then else end", 7), ("if c then do x else end do x", 7)]:
            self.assertEqual(spots(body), expected, body)

    def test_both(self):
        for body, expected in [("both and end", 6), ("both do x and end", 8), ("both do x and do x end", 11),
                               ("both do x do x and do x end", 17), ("both do x do y and do z do w end", 27),
                               ("do v both do x and do y end do w", 15), ("both if c then else end and end", 10),
                               ("both do x and both do y and do z end end", 35)]:
            self.assertEqual(spots(body), expected, body)

    # The inner both has 11 spots, each with three of the third body, and two are around it.
    def test_three_and_more_bodies(self):
        self.assertEqual(spots("both do x and do y and do z end"), 11 * 3 + 2)
        self.assertEqual(spots("both do x and do y and do z and do w end"), (11 * 3 + 2) * 3 + 2)
        self.assertEqual(spots("both and and end"), 6 * 2 + 2)
        self.assertEqual(spots("both and and and end"), (6 * 2 + 2) * 2 + 2)
        for bodies in [["do x", "do y", "do z"], ["", "do x", ""], ["do x do y", "", "do z do z"]]:
            first, second, third = bodies
            self.assertEqual(spots(f"both {first} and {second} and {third} end"),
                             spots(f"both both {first} and {second} end and {third} end"))

    def test_again(self):
        for body, expected in [("again until c end", 4), ("again do x until c end", 5),
                               ("again do x do y until c end", 7), ("do v again do x until c end do w", 9),
                               ("again again do x until c end until d end", 7),
                               ("again both do x and do y end until c end", 13)]:
            self.assertEqual(spots(body), expected, body)

    def test_both_of_steps_and_conditions(self):
        self.assertEqual(spots("both do x and if c then do y else end end"), 3 * 5 + 2)
        self.assertEqual(spots("if c then both do x and do y end else do z end"), 1 + 11 + 2)
        self.assertEqual(spots("again both do x and if c then else end end until c end"), 2 + 3 * 4 + 2)

    def test_used_recipes(self):
        for used, body, alone in [("", "use z", 2), ("do x do y", "use z", 5), ("do x do y", "use z use z", 9),
                                  ("do x", "both use z and use z end", 11), ("", "use z do x", 4),
                                  ("again do x until c end", "if c then use z else use z end", 10)]:
            answered = claims_of(f"recipe z {used} end recipe a {body} end", "")
            self.assertEqual(answered[2], alone, body)

    def test_six_hundred(self):
        self.assertEqual(spots(SIX_HUNDRED), 600)
        self.assertEqual(claims_of(f"recipe e end recipe a {SIX_HUNDRED} end recipe b use a end", ""), [3, 2, 600, 600])
        self.assertEqual(claims_of(f"recipe e end recipe a use e {SIX_HUNDRED} end", ""), wrong_works(0, 7))
        self.assertEqual(spots(f"both {steps(12, 'a')} and {steps(11, 'b')} end"), 25 * 23 + 2)
        self.assertEqual(spots(f"both {steps(12, 'a')} and {steps(11, 'b')} end {steps(5)}"), 25 * 23 + 2 + 10)

    # Units that are held along with marks and begun moves make no more spots than these alone.
    def test_units_and_spots(self):
        lines = ["unit u 9", "claim a u 9", "take x u 4", "give y u 4"]
        for body, expected in [("do x do y", [5, 4]), ("do x again until c end do y", [8, 4]),
                               ("both do x do y and do z end", [17, 4]), ("if c then do x do y else end", [7, 4]),
                               ("do x both do z and do y end", [13, 4])]:
            self.assertEqual(claims_of(f"recipe a {body} end", told(lines)), [1] + expected, body)

    def test_ten_recipes_of_600_spots_and_six_units(self):
        recipes = f"recipe r0 {SIX_HUNDRED} end "
        recipes += " ".join([f"recipe {name} use r0 end" for name in named("r", 10)[1:]])
        lines = [f"unit u{k} 9" for k in range(6)] + [f"claim r{n} u{k} 9" for n in range(10) for k in range(6)]
        lines += [f"{word} {step} u{k} 3" for k in range(6) for word, step in [("take", f"a{k}"), ("give", f"a{k + 1}"),
                                                                            ("take", f"b{k}"), ("give", f"b{k + 4}")]]
        self.assertEqual(claims_of(recipes, told(lines)), [10] + ([600] + [6] * 6) * 10)


class MostHeld(unittest.TestCase):

    U = ["take x u 2", "give x u 2", "take y u 3", "give y u 3", "take z u 5", "give z u 5"]

    def test_what_is_held_together(self):
        for body, most in [("", 0), ("do x", 2), ("do x do y", 3), ("do z do y do x", 5), ("both do x and do y end", 5),
                           ("both do x and do y and do z end", 10), ("both do x do z and do y end", 8),
                           ("both do x and do x and do x end", 6), ("if c then do x else do y end", 3),
                           ("if c then both do x and do y end else do x end", 5), ("again do y until c end do x", 3),
                           ("both if c then do z else end and again do x until d end end", 7), ("do w", 0),
                           ("both do w and do y end", 3)]:
            self.assertEqual(held(body, *self.U), [most, 0, 0], body)

    def test_what_is_held_over_several_steps(self):
        lines = ["take x u 1", "take y u 2", "give y u 1", "give z u 2"]
        self.assertEqual(held("do x do y do z", *lines), [3, 0, 0])
        self.assertEqual(held("do x both do y and do w end do z", *lines), [3, 0, 0])
        self.assertEqual(held("do x do y do z do x do y do z", *lines), [3, 0, 0])
        self.assertEqual(held("both do x do y do z and do x do y do z end", *lines), [6, 0, 0])

    # What a step takes is held beside what is held yet, and is not given before its end.
    def test_while_a_step_is_begun(self):
        self.assertEqual(held("do x do y", "take x u 2", "take y u 3", "give y u 5"), [5, 0, 0])
        self.assertEqual(held("do x do y", "take x u 4", "give x u 1", "take y u 1", "give y u 4"), [4, 0, 0])
        self.assertEqual(held("do x do y", "take x u 4", "give x u 1", "take y u 2", "give y u 5"), [5, 0, 0])

    # u and v are never held together.
    def test_each_unit_by_itself(self):
        lines = ["take x u 4", "give x u 4", "take y v 7", "give y v 7"]
        self.assertEqual(held("do x do y", *lines), [4, 7, 0])
        self.assertEqual(held("if c then do x else do y end", *lines), [4, 7, 0])
        self.assertEqual(held("both do x do x and do y end", *lines), [4, 7, 0])
        self.assertEqual(held("both do x and do x do y end", *lines), [8, 7, 0])
        more = lines + ["take y u 1", "give y u 1", "take x w 9", "take y w 1", "give x w 2", "give z w 8"]
        self.assertEqual(held("do x do y do z", *more), [4, 7, 9])

    def test_the_order_of_the_units_is_that_of_their_lines(self):
        plant = ["unit w 9", "claim a w 1", "unit a 9", "take x a 2", "take x w 1", "give x w 1", "unit u 9",
                 "give x a 2", "claim a a 2"]
        self.assertEqual(claims_of("recipe a do x end", told(plant)), [1, 3, 1, 2, 0])

    def test_the_greatest(self):
        self.assertEqual(held("do x", "take x v 99", "give x v 99"), [0, 99, 0])
        self.assertEqual(held("both do x and do y end", "take x v 98", "give x v 98", "take y v 1", "give y v 1"),
                         [0, 99, 0])


class Refusals(unittest.TestCase):

    def test_what_works_refuses(self):
        for recipes, plant in [("", ""), ("recipe a either or end end", ""), (BOOK, "bad"), (BOOK, "stuff a\nstuff a"),
                               (BOOK, "\nunit u 1\ntake heat v 1"), (BOOK, "unit u 1\ntake heat u 1"),
                               (BOOK, "vessel v 1\npour heat v v 1"), (BOOK, [999]), ([-1], PLANT),
                               (BOOK, told(["ship heat v"] * 61)), (BOOK, " " * 6001), (BOOK + " " * 6000, PLANT)]:
            self.assertEqual(claims_of(recipes, plant), works_of(recipes, plant))
            self.assertLess(claims_of(recipes, plant)[0], 0)


if __name__ == "__main__":
    unittest.main()
