"""What is shown: the recipes and the works in one form, whatever form they were told in."""

import itertools
import unittest

from batchworks.works import check, claims, judge, recall, record, report, shown, works
from helper import BOOK, PLANT, answer, as_bytes, named, shown_of, steps, text_in, told, works_of, wrong_works

X = "do x takes 0 to 0"
Y = "do y takes 3 to 5"
# Recipes of each item alone and within others, each as it is shown.
ITEMS = ["", X, f"{X} {X}", f"{X} {Y}", "if c then else end", f"if c then {X} else end", f"if c then else {Y} end",
         f"if c then {X} {X} else {Y} {X} end", "both and end", f"both {X} and end", f"both and {X} end",
         f"both {X} {Y} and {Y} {X} end", "again until c end", f"again {X} until c end", f"again {X} {Y} until c end",
         "use z", f"use z {X} use z", "if c then use z else use z end", "both use z and use z end",
         "again use z until c end",
         "if c then if d then else end else if c then else end end",
         "if c then both and end else again until d end end",
         "both if c then else end and again until c end end", "both both and end and both and end end",
         "both and both and end end", "both both and end and end",
         "again again until c end until d end", "again if c then else end until d end",
         "again both and end until c end",
         f"{X} if c then {Y} else end {X} both {Y} and {X} end again {X} until c end use z {Y}"]


def recipes_shown(text):
    return shown_of(text, "")[0]


def body_shown(body):
    """How a body of a recipe is shown, behind a recipe z that it may use."""
    lines = recipes_shown(f"recipe z end recipe a {body} end")
    assert len(lines) == 2 and lines[0] == "recipe z end"
    assert lines[1].startswith("recipe a ") and lines[1].endswith(" end")
    return lines[1][len("recipe a "):-len(" end")] if lines[1] != "recipe a end" else ""


class Ordinary(unittest.TestCase):

    def test_the_book_and_the_plant_of_the_other_tests(self):
        recipes, plant = shown_of()
        self.assertEqual(recipes, ["recipe brew do heat takes 5 to 9 do cool takes 0 to 0 "
                                   "again do stir takes 0 to 0 until smooth end end",
                                   "recipe rinse do flush takes 0 to 0 end"])
        self.assertEqual(plant, PLANT.split("\n")[:-1])

    def test_the_texts_that_are_answered(self):
        self.assertEqual(answer(shown, "recipe a end", ""), [13] + as_bytes("recipe a end\n") + [0])
        self.assertEqual(answer(shown, "recipe a\nend recipe b end", " stuff  m\n\nvessel v 7"),
                         [26] + as_bytes("recipe a end\nrecipe b end\n") + [19] + as_bytes("stuff m\nvessel v 7\n"))


class Items(unittest.TestCase):

    def test_each_item_alone_and_within_others(self):
        for body in ITEMS:
            self.assertEqual(body_shown(body), body)

    def test_items_within_all_others(self):
        for body in ITEMS[:20]:
            for around in ["if d then BODY else end", "if d then else BODY end", "both BODY and end",
                           "both and BODY end", "again BODY until d end", "BODY do w takes 0 to 0",
                           "do w takes 0 to 0 BODY"]:
                whole = " ".join(around.replace("BODY", body).split())
                self.assertEqual(body_shown(whole), whole)

    def test_deep_within_one_another(self):
        for opened, closed, deep in [("again ", "until c end ", 29), ("if c then ", "else end ", 14),
                                     ("if c then else ", "end ", 14), ("both ", "and end ", 7),
                                     ("both and ", "end ", 7)]:
            text = (opened * deep + closed * deep).strip()
            self.assertEqual(body_shown(text), text)

    def test_thirty_steps(self):
        self.assertEqual(body_shown(steps(30)), " ".join([f"do s{k} takes 0 to 0" for k in range(30)]))

    def test_conditions_stand_where_they_were_told(self):
        for body in ["if d then if c then else end else if h then else end end",
                     "again if d then else end until c end again until d end",
                     "again again until c end until h end if c then else end"]:
            self.assertEqual(body_shown(body), body)

    def test_one_name_for_all(self):
        text = "recipe a do a takes 1 to 2 if a then do a takes 1 to 2 else again until a end end end"
        self.assertEqual(recipes_shown(text), [text])


class Times(unittest.TestCase):

    def test_times_that_are_told(self):
        for least, greatest in [(0, 0), (0, 1), (7, 7), (5, 1000000), (1000000, 1000000)]:
            body = f"do x takes {least} to {greatest}"
            self.assertEqual(body_shown(body), body)

    def test_times_that_are_not_told(self):
        self.assertEqual(body_shown("do x"), "do x takes 0 to 0")
        self.assertEqual(body_shown("do x do y takes 3 to 5 do w"), f"{X} {Y} do w takes 0 to 0")

    # Wherever the times are told, they are shown at every place.
    def test_times_that_are_told_again(self):
        y = "do y takes 3 to 5"
        for body in ["do y takes 3 to 5 do y", "do y takes 3 to 5 do y takes 3 to 5"]:
            self.assertEqual(body_shown(body), f"{y} {y}")
        self.assertEqual(body_shown("do x do x takes 0 to 0 do x"), f"{X} {X} {X}")
        self.assertEqual(body_shown("if c then do y takes 3 to 5 else do y end again do y until c end"),
                         f"if c then {y} else {y} end again {y} until c end")

    def test_times_that_another_recipe_tells(self):
        self.assertEqual(recipes_shown("recipe a do x takes 3 to 5 end recipe b do x do w end recipe c do w do x end"),
                         ["recipe a do x takes 3 to 5 end", "recipe b do x takes 3 to 5 do w takes 0 to 0 end",
                          "recipe c do w takes 0 to 0 do x takes 3 to 5 end"])


class Both(unittest.TestCase):

    def test_three_and_more_bodies(self):
        a, b, c, d, e = [f"do {name} takes 0 to 0" for name in "abcde"]
        for body, expected in [
                ("both do a and do b end", f"both {a} and {b} end"),
                ("both do a and do b and do c end", f"both both {a} and {b} end and {c} end"),
                ("both do a and do b and do c and do d end", f"both both both {a} and {b} end and {c} end and {d} end"),
                ("both do a and do b and do c and do d and do e end",
                 f"both both both both {a} and {b} end and {c} end and {d} end and {e} end")]:
            self.assertEqual(body_shown(body), expected)

    def test_empty_bodies(self):
        self.assertEqual(body_shown("both and and end"), "both both and end and end")
        self.assertEqual(body_shown("both and and and end"), "both both both and end and end and end")
        self.assertEqual(body_shown("both do x and and end"), f"both both {X} and end and end")
        self.assertEqual(body_shown("both and do x and end"), f"both both and {X} end and end")
        self.assertEqual(body_shown("both and and do x end"), f"both both and end and {X} end")

    def test_bodies_of_several_items(self):
        self.assertEqual(body_shown("both do x do x and and do x use z do x end do x"),
                         f"both both {X} {X} and end and {X} use z {X} end {X}")

    def test_bodies_that_are_both_themselves(self):
        a, b, c, d, e = [f"do {name} takes 0 to 0" for name in "abcde"]
        for body, expected in [
                ("both both do a and do b end and do c end", f"both both {a} and {b} end and {c} end"),
                ("both do a and both do b and do c end end", f"both {a} and both {b} and {c} end end"),
                ("both do a and both do b and do c and do d end end",
                 f"both {a} and both both {b} and {c} end and {d} end end"),
                ("both both do a and do b and do c end and do d and do e end",
                 f"both both both both {a} and {b} end and {c} end and {d} end and {e} end"),
                ("both do a and both do b and do c end and do d end",
                 f"both both {a} and both {b} and {c} end end and {d} end"),
                ("both do a and do b and both do c and do d and do e end end",
                 f"both both {a} and {b} end and both both {c} and {d} end and {e} end end"),
                ("both both both and and end and and end and and end",
                 "both both both both both both and end and end and end and end and end and end")]:
            self.assertEqual(body_shown(body), expected)

    def test_both_within_the_other_items(self):
        three, shown_three = "both do x and and do x end", f"both both {X} and end and {X} end"
        for around in ["if c then BODY else end", "if c then else BODY end", "again BODY until c end", "BODY BODY",
                       "both BODY and end", "both and BODY end"]:
            self.assertEqual(body_shown(around.replace("BODY", three)), around.replace("BODY", shown_three))

    def test_as_many_as_there_may_be(self):
        # Fifteen empty bodies would be 29 things, but too many spots.
        for how_many in range(2, 6):
            expected = "both and end"
            for k in range(how_many - 2):
                expected = f"both {expected} and end"
            self.assertEqual(body_shown("both" + " and" * (how_many - 1) + " end"), expected)


class Recipes(unittest.TestCase):

    def test_used_recipes_stay_used(self):
        text = "recipe z do x do y takes 3 to 5 end recipe b use z use z end recipe a use b do x use z end"
        self.assertEqual(recipes_shown(text), [f"recipe z {X} {Y} end", "recipe b use z use z end",
                                               f"recipe a use b {X} use z end"])

    def test_recipes_stand_in_their_order(self):
        names = ["m", "a", "z", "b", "k9", "abcdefghijkl", "k10", "k1", "order", "stuff"]
        self.assertEqual(recipes_shown(" ".join([f"recipe {name} do {name} end" for name in names])),
                         [f"recipe {name} do {name} takes 0 to 0 end" for name in names])

    def test_blanks_and_line_ends(self):
        text = "\n\n  recipe\na\n\ndo   x\ntakes 0\n to 0\nif c\n\nthen else   end\nend recipe \n b end \n\n"
        self.assertEqual(recipes_shown(text), [f"recipe a {X} if c then else end end", "recipe b end"])

    def test_more_than_6000_bytes_may_be_shown(self):
        long = named("abcdefghij", 30)
        text = " ".join([f"recipe r{k} " + " ".join([f"do {name}" for name in long]) + " end" for k in range(10)])
        self.assertLess(len(text), 6000)
        expected = " ".join([f"do {name} takes 0 to 0" for name in long])
        self.assertEqual(recipes_shown(text), [f"recipe r{k} {expected} end" for k in range(10)])
        self.assertGreater(len(told(recipes_shown(text))), 6000)


STUFFS = ["stuff z", "stuff m"]
VESSELS = ["vessel v 5", "vessel a 1000000"]
UNITS = ["unit u 99", "unit k 1"]
CLAIMS = ["claim b u 99", "claim a k 1", "claim a u 3"]
TAKES = ["take y u 1", "take x k 1", "take x u 2"]
GIVES = ["give y u 1", "give x u 2", "give x k 1"]
DOINGS = ["ship y v", "turn x a m z 2 4", "charge y v m 5", "empty x v a", "pour y v a 5", "ship y v", "charge x a z 9",
          "turn y v z m 1000 1000", "pour x a v 1000000", "empty y a v"]
WORKS = [STUFFS, VESSELS, UNITS, CLAIMS, TAKES, GIVES, DOINGS]
RECIPES = "recipe a do x end recipe b do y end"


def works_shown(text, recipes=RECIPES):
    return shown_of(recipes, text)[1]


class Works(unittest.TestCase):

    ALL = [line for lines in WORKS for line in lines]

    def test_each_kind_of_lines_alone(self):
        self.assertEqual(works_shown(""), [])
        for lines in [STUFFS, VESSELS, UNITS]:
            self.assertEqual(works_shown(told(lines)), lines)
        self.assertEqual(works_shown(told(UNITS + CLAIMS)), UNITS + CLAIMS)
        self.assertEqual(works_shown(told(UNITS + CLAIMS + TAKES + GIVES)), UNITS + CLAIMS + TAKES + GIVES)
        for doing in DOINGS:
            self.assertEqual(works_shown(told(STUFFS + VESSELS + [doing])), STUFFS + VESSELS + [doing])

    def test_all_of_them_in_their_order(self):
        self.assertEqual(works_shown(told(self.ALL)), self.ALL)

    # A line may be told when the names in it are; each of the seven kinds keeps its own order.
    def test_mixed_lines(self):
        names, others = STUFFS + VESSELS + UNITS, [CLAIMS, TAKES, GIVES, DOINGS]
        for first in itertools.permutations([STUFFS, VESSELS, UNITS]):
            for behind in itertools.permutations(others):
                lines = [line for lines in [*first, *behind] for line in lines]
                self.assertEqual(works_shown(told(lines)), self.ALL)
        by_turns = [line for lines in itertools.zip_longest(*others) for line in lines if line is not None]
        self.assertEqual(works_shown(told(names + by_turns)), self.ALL)
        self.assertEqual(works_shown(told(names[::2] + names[1::2] + by_turns)),
                         [line for lines in [STUFFS, VESSELS, UNITS, *others] for line in lines])
        early = UNITS + CLAIMS[:1] + VESSELS[1:] + TAKES[:2] + ["ship x a"] + STUFFS[::-1] + GIVES
        early += ["turn y a z m 1 3"] + CLAIMS[1:] + VESSELS[:1] + ["pour x a v 1"] + TAKES[2:]
        self.assertEqual(works_shown(told(early)),
                         STUFFS[::-1] + VESSELS[::-1] + UNITS + CLAIMS + TAKES + GIVES
                         + ["ship x a", "turn y a z m 1 3", "pour x a v 1"])

    def test_doings_of_all_forms_stay_in_the_order_of_lines(self):
        for doings in itertools.permutations(["ship x v", "turn x a m z 1 2", "charge x v m 5", "empty x v a",
                                              "pour x v a 5"]):
            self.assertEqual(works_shown(told(STUFFS + VESSELS + list(doings))), STUFFS + VESSELS + list(doings))

    def test_lines_that_are_told_again_stand_again(self):
        doings = ["ship x v"] * 30 + ["charge y v m 2"] * 30
        self.assertEqual(works_shown(told(STUFFS + VESSELS + doings)), STUFFS + VESSELS + doings)

    # The share isn't told in lowest terms.
    def test_numbers_stand_as_they_were_told(self):
        for share in ["1 1", "2 4", "1000 1000", "500 1000", "1 1000"]:
            lines = STUFFS + VESSELS + [f"turn x v m z {share}"]
            self.assertEqual(works_shown(told(lines)), lines)

    def test_blanks_and_lines_without_words(self):
        text = "\n \n  stuff   z\n\n vessel v  5  \n   \nstuff m\n" + "\n" * 99 + "  charge x  v   m 4 \n ship x v"
        self.assertEqual(works_shown(text), ["stuff z", "stuff m", "vessel v 5", "charge x v m 4", "ship x v"])
        self.assertEqual(works_shown(" \n" * 3000), [])

    def test_names_of_all_kinds_may_be_alike(self):
        lines = ["stuff a", "vessel a 5", "unit a 1", "claim a a 1", "take a a 1", "give a a 1", "charge a a a 5"]
        self.assertEqual(works_shown(told(lines), "recipe a do a end"), lines)
        words = ["stuff", "vessel", "unit", "claim", "take", "give", "doing", "charge", "ship"]
        lines = [f"stuff {word}" for word in words] + [f"vessel {word} 1" for word in words]
        self.assertEqual(works_shown(told(lines[::-1])), lines[:9][::-1] + lines[9:][::-1])

    def test_as_many_as_there_may_be(self):
        lines = [f"stuff s{k}" for k in range(12)] + [f"vessel v{k} {k + 1}" for k in range(12)]
        lines += [f"unit u{k} 99" for k in range(6)] + [f"claim r{k // 6} u{k % 6} {k + 1}" for k in range(60)]
        lines += [f"{word} x{k} u{k % 6} 1" for word in ["take", "give"] for k in range(10)]
        lines += [f"charge x{k % 10} v{k % 12} s{(k + 5) % 12} {k + 1}" for k in range(60)]
        recipes = " ".join([f"recipe r{k} do x{k} end" for k in range(10)])
        self.assertEqual(works_shown(told(lines), recipes), lines)
        # Twelve of each stand in the order of lines, not of names.
        self.assertEqual(works_shown(told(lines[11::-1]), recipes), lines[11::-1])


class Again(unittest.TestCase):
    """What is shown, handed in anew."""

    RECIPES = "recipe z do w end recipe a do x takes 2 to 3 both use z and do y and again do x until c end end end " \
              "recipe b if d then use a else do w end both and and end end"
    PLANT = told(["", " unit u  3", *STUFFS, "vessel v   9", "", "claim a u 3", " vessel a 9 ", "charge x v m 2", " ",
                  "claim b u 3", "take x u 1", "turn w v m z 1 3", "give x u 1", "pour y v a 1", "ship w a"])
    DAY = told(["0 lot l m 90 99", "0 batch p a", "1 batch q b", "3 say p c yes", "5 say q d yes", "9 say q c no",
                "20 till"])

    def test_it_is_shown_the_same(self):
        for recipes, plant in [(BOOK, PLANT), (BOOK, ""), (RECIPES, told(Works.ALL)), (self.RECIPES, ""),
                               (self.RECIPES, self.PLANT)]:
            first = shown_of(recipes, plant)
            self.assertEqual(shown_of(told(first[0]), told(first[1])), first)
        for body in ITEMS + ["both and and end", "both do x and and do x and end", "do y takes 1 to 2 do y do y",
                             "do x both and both and and end end"]:
            first = recipes_shown(f"recipe z do w end recipe a {body} end")
            self.assertEqual(recipes_shown(told(first)), first)

    # Numbers of steps, conditions, stuffs and so on are the same, and so is all that is done.
    def test_all_calls_answer_the_same(self):
        recipes, plant = [told(lines) for lines in shown_of(self.RECIPES, self.PLANT)]
        for function in [works, claims, shown]:
            self.assertEqual(answer(function, recipes, plant), answer(function, self.RECIPES, self.PLANT))
        written = text_in(answer(record, recipes, plant, self.DAY))
        self.assertIn("ship a 0", written)
        for function, more in [(check, []), (record, []), (report, []), (recall, ["l"]), (judge, [written])]:
            self.assertEqual(answer(function, recipes, plant, self.DAY, *more),
                             answer(function, self.RECIPES, self.PLANT, self.DAY, *more))


class Refusals(unittest.TestCase):

    def test_what_works_refuses(self):
        for recipes, plant in [("", ""), ("recipe a either or end end", ""), (BOOK, "bad"), (BOOK, "stuff a\nstuff a"),
                               (BOOK, "\nunit u 1\ntake heat v 1"), (BOOK, "unit u 1\ntake heat u 1"),
                               (BOOK, "vessel v 1\npour heat v v 1"), (BOOK, [999]), ([-1], PLANT),
                               (BOOK, " " * 6001), (BOOK + " " * 6000, PLANT)]:
            self.assertEqual(answer(shown, recipes, plant), works_of(recipes, plant))
            self.assertLess(works_of(recipes, plant)[0], 0)

    def test_an_either_is_not_shown(self):
        self.assertEqual(answer(shown, "recipe a either do x or do y end end", ""), wrong_works(0, 6))


if __name__ == "__main__":
    unittest.main()
