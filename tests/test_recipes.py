"""Which recipes' texts are such texts: kind 8 where they are not."""

import unittest

from helper import named, steps, works_of, wrong_works

NO_TEXT = wrong_works(0, 8)


def counted(recipes):
    return works_of(recipes, "")


class Ordinary(unittest.TestCase):

    def test_recipes_are_counted(self):
        self.assertEqual(counted("recipe a do x end"), [1, 0, 0, 0, 0])
        self.assertEqual(counted("recipe a do x end recipe b end recipe c use a end"), [3, 0, 0, 0, 0])

    def test_every_form_of_an_item(self):
        text = ("recipe a do x takes 0 to 7 if c then do y else end both do x and and do z end "
                "again do w until c end end recipe b use a use a end")
        self.assertEqual(counted(text), [2, 0, 0, 0, 0])

    def test_blanks_and_line_ends_part_words_alike(self):
        self.assertEqual(counted("\n\n  recipe\na\n\ndo   x\ntakes 1\n to 2 end  \n"), [1, 0, 0, 0, 0])

    def test_bodies_may_be_empty(self):
        for body in ["", "if c then else end", "both and end", "both and and end", "again until c end"]:
            self.assertEqual(counted(f"recipe a {body} end"), [1, 0, 0, 0, 0], body)

    def test_a_step_a_condition_and_a_recipe_may_have_one_name(self):
        self.assertEqual(counted("recipe a do a if a then else end end"), [1, 0, 0, 0, 0])

    def test_words_of_the_other_texts_are_names(self):
        self.assertEqual(counted("recipe stuff do vessel do till do order do yes end"), [1, 0, 0, 0, 0])


class WrongForms(unittest.TestCase):

    def test_no_recipe_at_all(self):
        for text in ["", " ", "\n\n", " \n "]:
            self.assertEqual(counted(text), NO_TEXT, repr(text))

    def test_texts_that_are_broken_off(self):
        whole = ("recipe a do x takes 1 to 2 if c then do y else end both do x and do z end "
                 "again do w until c end end").split()
        self.assertEqual(counted(" ".join(whole)), [1, 0, 0, 0, 0])
        for length in range(len(whole)):
            broken = " ".join(whole[:length])
            self.assertEqual(counted(broken), NO_TEXT, broken)
            if length > 0:
                self.assertEqual(counted("recipe b do v end " + broken), NO_TEXT, broken)

    def test_each_word_is_asked_for(self):
        whole = ("recipe a do x takes 1 to 2 if c then do y else end both do x and do z end "
                 "again do w until c end either do v or end end recipe b use a end").split()
        self.assertEqual(counted(" ".join(whole)), wrong_works(0, 6))
        for k in range(len(whole)):
            other = " ".join(whole[:k] + ["9"] + whole[k + 1:])
            if whole[k] not in ("1", "2"):
                self.assertEqual(counted(other), NO_TEXT, other)

    def test_words_where_they_may_not_stand(self):
        for body in ["x", "end", "else", "then", "to", "until c", "and do x", "or do x", "recipe b end",
                     "if c then do x end", "if c do x else end", "if c then else else end", "if c then or end",
                     "if c then and end", "if c then until c end", "if then else end",
                     "either do x end", "either or or end", "either else end", "either and end",
                     "both do x end", "both do x or end", "both else end", "both do x and do y",
                     "again do x end", "again do x until end", "again until c", "again until c do x end",
                     "again and until c end", "again else until c end", "again until c until c end",
                     "do", "do x takes", "do x takes 1", "do x takes 1 to", "do x takes to 2", "do x to 2",
                     "takes 1 to 2", "do x takes 1 2", "do x takes 1 to 2 takes 1 to 2", "use", "use b"]:
            self.assertEqual(counted(f"recipe a {body} end"), NO_TEXT, body)

    def test_what_stands_beside_recipes(self):
        for text in ["a", "end", "do x", "recipe", "recipe a", "a recipe a end", "recipe a end end",
                     "recipe a end do x", "recipe a end recipe", "recipe a end b", "recipe end", "recipe a recipe"]:
            self.assertEqual(counted(text), NO_TEXT, text)

    def test_other_signs_than_blanks_part_no_words(self):
        for sign in ["\t", "\r", "\x00", "\x0b", "\x0c", "\x85", "\xa0", "\xff", "-"]:
            self.assertEqual(counted(f"recipe a{sign}do x end"), NO_TEXT, repr(sign))
            self.assertEqual(counted(f"recipe a end {sign}"), NO_TEXT, repr(sign))
        self.assertEqual(counted("recipe a do x\r\nend"), NO_TEXT)


class Names(unittest.TestCase):

    def test_names_have_at_most_twelve_signs(self):
        for form in ["recipe NAME end", "recipe a do NAME end", "recipe a if NAME then else end end",
                     "recipe a again until NAME end end", "recipe NAME end recipe b use NAME end"]:
            count = form.count("recipe")
            for name in ["a", "z9", "abcdefghijkl", "a23456789012", "endx", "recipes", "zyxwvu"]:
                self.assertEqual(counted(form.replace("NAME", name))[0], count, name)
            for name in ["abcdefghijklm", "a234567890123", "9", "9a", "A", "aB", "a_b", "a-b", "\xe4", "a\xe4", "?"]:
                self.assertEqual(counted(form.replace("NAME", name)), NO_TEXT, name)

    def test_kept_words_are_no_names(self):
        for word in ("recipe end do takes to if then else either or both and again until use").split():
            self.assertEqual(counted(f"recipe {word} end"), NO_TEXT, word)
            self.assertEqual(counted(f"recipe a do {word} end"), NO_TEXT, word)
            self.assertEqual(counted(f"recipe a if {word} then else end end"), NO_TEXT, word)
            self.assertEqual(counted(f"recipe a again until {word} end end"), NO_TEXT, word)

    def test_recipes_have_unlike_names(self):
        self.assertEqual(counted("recipe a do x end recipe a do x end"), NO_TEXT)
        self.assertEqual(counted("recipe a end recipe b end recipe a end"), NO_TEXT)


class Times(unittest.TestCase):

    def test_the_least_and_the_greatest_time(self):
        for least, greatest in [("0", "0"), ("0", "1000000"), ("1000000", "1000000"), ("5", "5"), ("5", "6")]:
            self.assertEqual(counted(f"recipe a do x takes {least} to {greatest} end")[0], 1)
        for least, greatest in [("0", "1000001"), ("1000001", "1000001"), ("6", "5"), ("1", "0"), ("0", "9999999")]:
            self.assertEqual(counted(f"recipe a do x takes {least} to {greatest} end"), NO_TEXT)

    def test_times_are_numbers_without_zeros_in_front(self):
        for number in ["00", "01", "0000001", "00000000", "10000000", "-1", "+1", "1.0", "x", "1x", "\xb2", "1_0"]:
            self.assertEqual(counted(f"recipe a do x takes {number} to 1000000 end"), NO_TEXT, number)
            self.assertEqual(counted(f"recipe a do x takes 0 to {number} end"), NO_TEXT, number)

    def test_times_that_are_told_again_are_the_same(self):
        for second in ["do x", "do x takes 3 to 4", "do x do x takes 3 to 4"]:
            self.assertEqual(counted(f"recipe a do x takes 3 to 4 {second} end")[0], 1, second)
        for second in ["do x takes 3 to 5", "do x takes 2 to 4", "do x takes 0 to 0"]:
            self.assertEqual(counted(f"recipe a do x takes 3 to 4 {second} end"), NO_TEXT, second)
            self.assertEqual(counted(f"recipe a do x takes 3 to 4 end recipe b {second} end"), NO_TEXT, second)

    def test_a_step_that_is_named_without_times_takes_none(self):
        self.assertEqual(counted("recipe a do x do x takes 0 to 0 end")[0], 1)
        self.assertEqual(counted("recipe a do x do x takes 0 to 1 end"), NO_TEXT)
        self.assertEqual(counted("recipe a do x end recipe b do x takes 1 to 1 end"), NO_TEXT)


class HowMany(unittest.TestCase):

    def test_ten_recipes(self):
        ten = " ".join([f"recipe {name} end" for name in named("r", 10)])
        self.assertEqual(counted(ten)[0], 10)
        self.assertEqual(counted(ten + " recipe eleventh end"), NO_TEXT)

    def test_thirty_steps(self):
        thirty = f"recipe a {steps(15, 's')} end recipe b {steps(15, 't')}"
        self.assertEqual(counted(thirty + " end")[0], 2)
        self.assertEqual(counted(thirty + " do s0 end")[0], 2)
        self.assertEqual(counted(thirty + " do other end"), NO_TEXT)

    def test_twelve_conditions(self):
        six = " ".join([f"if {name} then else end" for name in named("c", 6)])
        more = " ".join([f"again until {name} end" for name in named("d", 6)])
        text = f"recipe a {six} end recipe b {more}"
        self.assertEqual(counted(text + " end")[0], 2)
        self.assertEqual(counted(text + " if c0 then else end again until d5 end end")[0], 2)
        self.assertEqual(counted(text + " if other then else end end"), NO_TEXT)
        self.assertEqual(counted(text + " again until other end end"), NO_TEXT)


class Things(unittest.TestCase):

    # Each of these parts counts as many things as are told beside it.
    PARTS = [("do x", 1), ("do x do x", 2), ("if c then else end", 3), ("if c then do x do x else do x end", 4),
             ("again until c end", 2), ("again do x do x until c end", 3), ("both and end", 3),
             ("both and and end", 5), ("both do x do x and do x end", 4),
             ("if c then again until c end else both and end end", 6), ("use none", 1), ("use three", 3)]

    def test_each_part_counts(self):
        used = "recipe none end recipe three do x again until c end end"
        for part, things in self.PARTS:
            rest = " do x" * (30 - things)
            self.assertEqual(counted(f"{used} recipe a {part}{rest} end")[0], 3, part)
            self.assertEqual(counted(f"{used} recipe a {part}{rest} do x end"), NO_TEXT, part)

    def test_an_either_counts_before_it_is_refused(self):
        rest = " do x" * 27
        self.assertEqual(counted(f"recipe a either or end{rest} end"), wrong_works(0, 6))
        self.assertEqual(counted(f"recipe a either or end{rest} do x end"), NO_TEXT)

    def test_thirty_things_in_any_recipe(self):
        thirty = " do x" * 30
        self.assertEqual(counted(f"recipe a{thirty} end recipe b{thirty} end recipe c use b end")[0], 3)
        self.assertEqual(counted(f"recipe a{thirty} end recipe b use a do x end"), NO_TEXT)
        self.assertEqual(counted(f"recipe a{thirty} do x end recipe b end"), NO_TEXT)

    def test_used_recipes_grow(self):
        text = "recipe r0 do x do x do x end"
        for k in range(9):
            text += f" recipe r{k + 1} use r{k} use r{k} end"
        self.assertEqual(counted(text), NO_TEXT)
        self.assertEqual(counted("recipe r0 do x end recipe r1" + " use r0" * 30 + " end")[0], 2)
        self.assertEqual(counted("recipe r0 do x end recipe r1" + " use r0" * 31 + " end"), NO_TEXT)
        self.assertEqual(counted("recipe r0 end recipe r1" + " use r0" * 30 + " end")[0], 2)
        self.assertEqual(counted("recipe r0 end recipe r1" + " use r0" * 31 + " end"), NO_TEXT)


class Used(unittest.TestCase):

    def test_only_recipes_told_whole_before_are_used(self):
        self.assertEqual(counted("recipe a do x end recipe b use a end")[0], 2)
        self.assertEqual(counted("recipe b use a end recipe a do x end"), NO_TEXT)
        self.assertEqual(counted("recipe a use a end"), NO_TEXT)
        self.assertEqual(counted("recipe a do x end recipe b use x end"), NO_TEXT)
        self.assertEqual(counted("recipe a do x end recipe b if c then use b else use a end end"), NO_TEXT)


class DeepAndLong(unittest.TestCase):

    def nested(self, opened, closed, length):
        return "recipe a " + opened * length + closed * length + "end"

    def test_deep_nesting_is_gone_through(self):
        for opened, closed in [("again ", "until c end "), ("both and ", "end "), ("either ", "or end "),
                               ("if c then ", "else end "), ("both ", "and end ")]:
            deep = (6000 - len("recipe a end")) // len(opened + closed)
            text = self.nested(opened, closed, deep)
            self.assertLessEqual(len(text), 6000)
            self.assertEqual(counted(text), NO_TEXT)

    def test_deep_nesting_that_is_never_ended(self):
        for opened in ["both ", "again ", "either ", "if c then "]:
            self.assertEqual(counted(("recipe a " + opened * 1200)[:6000]), NO_TEXT)

    def test_the_deepest_nesting_that_is_let_in(self):
        self.assertEqual(counted(self.nested("again ", "until c end ", 29))[0], 1)
        self.assertEqual(counted(self.nested("again ", "until c end ", 30)), NO_TEXT)
        self.assertEqual(counted(self.nested("if c then ", "else end ", 14))[0], 1)
        self.assertEqual(counted(self.nested("if c then ", "else end ", 15)), NO_TEXT)
        self.assertEqual(counted(self.nested("both ", "and end ", 7))[0], 1)
        self.assertEqual(counted(self.nested("both ", "and end ", 14)), wrong_works(0, 7))
        self.assertEqual(counted(self.nested("both ", "and end ", 15)), NO_TEXT)

    def test_long_texts(self):
        self.assertEqual(counted("recipe a" + " " * 5988 + " end"), [1, 0, 0, 0, 0])
        self.assertEqual(counted("\n" * 5988 + "recipe a end"), [1, 0, 0, 0, 0])
        self.assertEqual(counted("recipe a " + "do x " * 1197 + "end"), NO_TEXT)
        self.assertEqual(counted("recipe " + "a" * 5989 + " end"), NO_TEXT)
        self.assertEqual(counted("recipe a do x takes 1 to " + "9" * 5900 + " end"), NO_TEXT)


if __name__ == "__main__":
    unittest.main()
