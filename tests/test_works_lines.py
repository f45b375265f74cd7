"""The works' text: what it counts, and its first wrong line with its first kind."""

import unittest

from helper import BOOK, PLANT, named, steps, told, works_of, wrong_works

KEPT = "recipe end do takes to if then else either or both and again until use".split()
NAMES = ["stuff malt", "stuff wort", "vessel tun 5", "vessel vat 9", "unit worker 3", "unit key 1"]
# A line of each form that is right behind NAMES, and right behind BOOK by its form.
RIGHT = ["stuff yeast", "vessel keg 7", "unit hose 2", "claim brew worker 2", "take heat worker 1",
         "give heat worker 1", "charge heat tun malt 4", "pour heat tun vat 4", "empty heat tun vat",
         "turn heat tun malt wort 1 2", "ship heat tun"]


def line_of(line, lines=(), recipes=BOOK):
    """What is answered of this line behind NAMES and these lines."""
    return works_of(recipes, told(NAMES + list(lines) + [line]))


class Ordinary(unittest.TestCase):

    def test_a_plant_is_counted(self):
        self.assertEqual(works_of(), [2, 2, 2, 1, 1])

    def test_each_form(self):
        lines = NAMES + [line for line in RIGHT]
        self.assertEqual(works_of(BOOK, told(lines)), [2, 3, 3, 3, 5])

    def test_an_empty_works(self):
        for text in ["", "\n", "  \n\n  ", " " * 6000, "\n" * 6000]:
            self.assertEqual(works_of(BOOK, text), [2, 0, 0, 0, 0])

    def test_blanks_and_lines_without_words_say_nothing(self):
        self.assertEqual(works_of(BOOK, "\n\n   stuff    malt  \n \n vessel tun   5\n"), [2, 1, 1, 0, 0])

    def test_the_last_line_needs_no_line_end(self):
        self.assertEqual(works_of(BOOK, "stuff malt\nstuff wort"), [2, 2, 0, 0, 0])

    def test_a_stuff_a_vessel_and_a_unit_may_have_one_name(self):
        text = "stuff a\nvessel a 1\nunit a 1\ncharge heat a a 1\n"
        self.assertEqual(works_of(BOOK, text), [2, 1, 1, 1, 1])

    def test_names_of_recipes_and_steps_too(self):
        recipes = "recipe a do a end"
        text = "stuff a\nvessel a 1\nunit a 1\nclaim a a 1\ntake a a 1\ngive a a 1\nship a a\n"
        self.assertEqual(works_of(recipes, text), [1, 1, 1, 1, 1])

    def test_a_doing_may_be_told_again(self):
        line = "charge heat tun malt 4"
        self.assertEqual(line_of(line, [line, line]), [2, 2, 2, 2, 3])

    def test_pairs_of_claim_take_and_give_are_apart(self):
        recipes = "recipe a do a end"
        self.assertEqual(works_of(recipes, "unit u 1\nclaim a u 1\ntake a u 1\ngive a u 1\n")[0], 1)

    def test_what_is_told_behind_the_line_that_names_it(self):
        self.assertEqual(works_of(BOOK, "charge heat tun malt 1\nstuff malt\nvessel tun 5\n"), wrong_works(1, 3))
        self.assertEqual(works_of(BOOK, "stuff malt\ncharge heat tun malt 1\nvessel tun 5\n"), wrong_works(2, 3))
        self.assertEqual(works_of(BOOK, "take heat u 1\nunit u 1\n"), wrong_works(1, 3))


class Forms(unittest.TestCase):

    def test_the_lines_of_which_the_others_are_made_are_right(self):
        for line in RIGHT[:4] + RIGHT[6:]:
            self.assertEqual(line_of(line)[0], 2, line)

    def test_a_word_less_or_more(self):
        for line in RIGHT:
            words = line.split()
            self.assertEqual(line_of(line + " x"), wrong_works(7, 1), line)
            self.assertEqual(line_of(line + " 1"), wrong_works(7, 1), line)
            for k in range(len(words)):
                less = " ".join(words[:k] + words[k + 1:])
                if less:
                    self.assertEqual(line_of(less), wrong_works(7, 1), less)

    def test_other_words_in_front(self):
        for word in ["stuffs", "Stuff", "lot", "recipe", "do", "7", "?", "order", "charges", "step", "end"]:
            self.assertEqual(line_of(word), wrong_works(7, 1), word)
            self.assertEqual(line_of(word + " yeast"), wrong_works(7, 1), word)
            self.assertEqual(line_of(word + " keg 7"), wrong_works(7, 1), word)
            self.assertEqual(line_of(word + " heat tun malt 4"), wrong_works(7, 1), word)

    def test_each_name_is_a_name(self):
        bad = ["abcdefghijklm", "9", "9a", "A", "a_b", "a-b", "\xe4", "a\t", "a\r", "a\x00", "\x0b", "\xff"] + KEPT
        for line in RIGHT:
            words = line.split()
            for k in range(1, len(words)):
                if words[k][0].isalpha():
                    for name in bad:
                        other = " ".join(words[:k] + [name] + words[k + 1:])
                        self.assertEqual(line_of(other), wrong_works(7, 1), repr(other))

    def test_twelve_signs_of_a_name(self):
        for form in ["stuff NAME", "vessel NAME 7", "unit NAME 2"]:
            for name in ["abcdefghijkl", "a23456789012", "y", "till", "yes", "order", "lot"]:
                self.assertEqual(line_of(form.replace("NAME", name))[0], 2, name)

    def test_each_number_is_a_number(self):
        bad = ["00", "01", "0000001", "00000001", "10000000", "-1", "+1", "1.0", "x", "1x", "\xb2", "1_0", "1\t", "0x1"]
        for line in RIGHT:
            words = line.split()
            for k in range(1, len(words)):
                if words[k].isdigit():
                    for number in bad:
                        other = " ".join(words[:k] + [number] + words[k + 1:])
                        self.assertEqual(line_of(other), wrong_works(7, 1), repr(other))


class Numbers(unittest.TestCase):

    def edges(self, form, most, right):
        for number in ["1", "2", str(most - 1), str(most)]:
            self.assertEqual(line_of(form.replace("N", number)), right, (form, number))
        for number in ["0", str(most + 1), "9999999", "0" + str(most)]:
            self.assertEqual(line_of(form.replace("N", number)), wrong_works(7, 1), (form, number))

    def test_what_a_vessel_holds(self):
        self.edges("vessel keg N", 1000000, [2, 2, 3, 2, 0])

    def test_how_many_there_are_of_a_unit(self):
        self.edges("unit hose N", 99, [2, 2, 2, 3, 0])

    def test_amounts_of_doings(self):
        self.edges("charge heat tun malt N", 1000000, [2, 2, 2, 2, 1])
        self.edges("pour heat tun vat N", 1000000, [2, 2, 2, 2, 1])

    def test_claims_takes_and_gives(self):
        for number in ["1", "98", "99"]:
            text = told(["unit u 99", f"claim brew u {number}", f"take cool u {number}", f"give cool u {number}"])
            self.assertEqual(works_of(BOOK, text), [2, 0, 0, 1, 0])
        for word in ["claim brew", "take cool", "give cool"]:
            for number in ["0", "100", "1000000", "01"]:
                text = told(["unit u 99", f"{word} u {number}"])
                self.assertEqual(works_of(BOOK, text), wrong_works(2, 1))

    def test_shares(self):
        for n, d in [(1, 1), (1, 2), (1, 1000), (1000, 1000), (999, 1000), (7, 7)]:
            self.assertEqual(line_of(f"turn heat tun malt wort {n} {d}"), [2, 2, 2, 2, 1])
        for n, d in [(0, 1), (0, 0), (1, 0), (2, 1), (1000, 999), (1, 1001), (1001, 1001), (1001, 1000)]:
            self.assertEqual(line_of(f"turn heat tun malt wort {n} {d}"), wrong_works(7, 1))

    def test_shares_are_compared_as_numbers(self):
        self.assertEqual(line_of("turn heat tun malt wort 9 10"), [2, 2, 2, 2, 1])
        self.assertEqual(line_of("turn heat tun malt wort 10 9"), wrong_works(7, 1))


class Told(unittest.TestCase):

    def test_told_already(self):
        for line in ["stuff malt", "vessel tun 5", "vessel tun 8", "unit worker 3", "unit worker 9"]:
            self.assertEqual(line_of(line), wrong_works(7, 2), line)

    def test_pairs_told_already(self):
        for line in ["claim brew worker 2", "take heat worker 2", "give heat worker 2"]:
            self.assertEqual(line_of(line, [line]), wrong_works(8, 2), line)
            self.assertEqual(line_of(line[:-1] + "1", [line]), wrong_works(8, 2), line)

    def test_names_that_are_not_told(self):
        for line in ["claim heat worker 2", "claim other worker 2", "claim brew other 2", "claim brew tun 2",
                     "take brew worker 1", "take other worker 1", "take heat other 1", "take smooth worker 1",
                     "give brew worker 1", "give other worker 1", "give heat malt 1",
                     "charge brew tun malt 4", "charge heat other malt 4", "charge heat tun other 4",
                     "charge heat malt tun 4", "charge heat tun worker 4",
                     "pour brew tun vat 4", "pour heat other vat 4", "pour heat tun other 4", "pour heat tun malt 4",
                     "empty brew tun vat", "empty heat other vat", "empty heat tun other", "empty heat tun malt",
                     "turn brew tun malt wort 1 2", "turn heat other malt wort 1 2", "turn heat tun other wort 1 2",
                     "turn heat tun malt other 1 2", "turn heat malt malt wort 1 2", "turn heat tun vat wort 1 2",
                     "ship brew tun", "ship heat other", "ship heat malt", "ship smooth tun"]:
            self.assertEqual(line_of(line), wrong_works(7, 3), line)

    def test_the_same_vessels_or_stuffs(self):
        for line in ["pour heat tun tun 4", "empty heat vat vat", "turn heat tun malt malt 1 2",
                     "pour heat tun tun 1000000"]:
            self.assertEqual(line_of(line), wrong_works(7, 4), line)


class TooMany(unittest.TestCase):

    def fill(self, form, how_many):
        return [form.replace("NAME", name) for name in named("n", how_many)]

    def test_stuffs_vessels_and_units(self):
        for form, most, place in [("stuff NAME", 12, 1), ("vessel NAME 5", 12, 2), ("unit NAME 5", 6, 3)]:
            right = [2, 0, 0, 0, 0]
            right[place] = most
            self.assertEqual(works_of(BOOK, told(self.fill(form, most))), right)
            self.assertEqual(works_of(BOOK, told(self.fill(form, most + 1))), wrong_works(most + 1, 5))

    def test_all_of_them_beside_one_another(self):
        lines = self.fill("stuff NAME", 12) + self.fill("vessel NAME 5", 12) + self.fill("unit NAME 5", 6)
        self.assertEqual(works_of(BOOK, told(lines)), [2, 12, 12, 6, 0])

    def test_sixty_doings_of_all_forms_together(self):
        doings = [RIGHT[6 + k % 5] for k in range(60)]
        self.assertEqual(works_of(BOOK, told(NAMES + doings)), [2, 2, 2, 2, 60])
        for doing in RIGHT[6:]:
            self.assertEqual(line_of(doing, doings), wrong_works(67, 5), doing)

    def test_sixty_takes_and_sixty_gives(self):
        recipes = f"recipe a {steps(11)} end"
        units = [f"unit u{k} 99" for k in range(6)]
        pairs = [f"s{k // 6} u{k % 6} 1" for k in range(66)]
        claims = [f"claim a u{k} 1" for k in range(6)]
        takes = ["take " + pair for pair in pairs]
        gives = ["give " + pair for pair in pairs]
        self.assertEqual(works_of(recipes, told(units + claims + takes[:60] + gives[:60])), [1, 0, 0, 6, 0])
        self.assertEqual(works_of(recipes, told(units + takes[:61])), wrong_works(67, 5))
        self.assertEqual(works_of(recipes, told(units + gives[:61])), wrong_works(67, 5))
        self.assertEqual(works_of(recipes, told(units + takes[:60] + gives[:61])), wrong_works(127, 5))

    def test_sixty_claims_are_all_that_can_be_told(self):
        recipes = " ".join([f"recipe {name} end" for name in named("r", 10)])
        units = [f"unit u{k} 99" for k in range(6)]
        claims = [f"claim r{k // 6} u{k % 6} 1" for k in range(60)]
        self.assertEqual(works_of(recipes, told(units + claims)), [10, 0, 0, 6, 0])
        self.assertEqual(works_of(recipes, told(units + claims + claims[:1])), wrong_works(67, 2))
        self.assertEqual(works_of(recipes, told(units + claims + ["claim r10 u0 1"])), wrong_works(67, 3))


class SeveralKinds(unittest.TestCase):

    def test_a_wrong_form_goes_before_all(self):
        many = [f"stuff n{k}" for k in range(10)]
        for line in ["stuff malt x", "vessel tun 0", "unit worker 100", "claim other other 0", "take other other 100",
                     "charge other other other 0", "pour other tun tun 0", "empty other tun tun 1",
                     "turn other tun malt malt 2 1", "ship other other 1", "stuff Malt"]:
            self.assertEqual(line_of(line), wrong_works(7, 1), line)
            self.assertEqual(line_of(line, many), wrong_works(17, 1), line)

    def test_told_already_goes_before_too_many(self):
        stuffs = [f"stuff n{k}" for k in range(12)]
        self.assertEqual(works_of(BOOK, told(stuffs + ["stuff n0"])), wrong_works(13, 2))
        vessels = [f"vessel n{k} 5" for k in range(12)]
        self.assertEqual(works_of(BOOK, told(vessels + ["vessel n11 5"])), wrong_works(13, 2))
        units = [f"unit n{k} 5" for k in range(6)]
        self.assertEqual(works_of(BOOK, told(units + ["unit n3 5"])), wrong_works(7, 2))

    def test_the_kinds_of_takes_and_gives(self):
        recipes = f"recipe a {steps(11)} end"
        units = [f"unit u{k} 99" for k in range(6)]
        for word in ["take", "give"]:
            sixty = [f"{word} s{k // 6} u{k % 6} 1" for k in range(60)]
            for line, kind in [("s0 u0 0", 1), ("other u0 1", 3), ("s10 u6 1", 3), ("s0 u0 1", 2), ("s10 u0 1", 5)]:
                self.assertEqual(works_of(recipes, told(units + sixty + [f"{word} {line}"])), wrong_works(67, kind))

    def test_the_kinds_of_doings(self):
        sixty = ["ship heat tun"] * 60
        for line, kind in [("pour other tun tun 0", 1), ("pour other tun tun 4", 3), ("pour heat other other 4", 3),
                           ("pour heat tun tun 4", 4), ("pour heat tun vat 4", 5),
                           ("empty other tun tun", 3), ("empty heat other other", 3), ("empty heat tun tun", 4),
                           ("turn other tun malt malt 1 1", 3), ("turn heat other malt malt 1 1", 3),
                           ("turn heat tun other other 1 1", 3), ("turn heat tun malt malt 2 1", 1),
                           ("turn heat tun malt malt 1 1", 4), ("turn heat tun malt wort 1 1", 5),
                           ("charge heat tun other 1", 3), ("charge heat tun malt 1", 5), ("ship other tun", 3)]:
            self.assertEqual(line_of(line, sixty), wrong_works(67, kind), line)
            if kind != 5:
                self.assertEqual(line_of(line), wrong_works(7, kind), line)


class FirstWrongLine(unittest.TestCase):

    def test_of_several_wrong_lines_the_first_is_told(self):
        wrong = [("bad", 1), ("stuff malt", 2), ("ship other tun", 3), ("pour heat tun tun 1", 4)]
        for first, kind in wrong:
            for second, other in wrong:
                self.assertEqual(works_of(BOOK, told(NAMES + [first, second])), wrong_works(7, kind))
                self.assertEqual(works_of(BOOK, told(NAMES + ["stuff x", first, "", second])), wrong_works(8, kind))

    def test_lines_without_words_are_numbered_too(self):
        self.assertEqual(works_of(BOOK, "bad"), wrong_works(1, 1))
        self.assertEqual(works_of(BOOK, "\n \nbad\n"), wrong_works(3, 1))
        self.assertEqual(works_of(BOOK, "\n" * 5997 + "bad"), wrong_works(5998, 1))
        self.assertEqual(works_of(BOOK, "stuff a\n\n\n\nstuff a"), wrong_works(5, 2))

    def test_many_lines(self):
        self.assertEqual(works_of(BOOK, " \n" * 2990 + "ship heat tun"), wrong_works(2991, 3))
        self.assertEqual(works_of(BOOK, "stuff " + "a" * 5994), wrong_works(1, 1))
        self.assertEqual(works_of(BOOK, "vessel a " + "1" * 5991), wrong_works(1, 1))
        self.assertEqual(works_of(BOOK, "a " * 3000), wrong_works(1, 1))

    def test_other_signs_do_not_part_words_or_lines(self):
        for sign in ["\t", "\r", "\x0b", "\x0c", "\x1c", "\x85", "\xa0", "\x00"]:
            self.assertEqual(works_of(BOOK, f"stuff{sign}malt"), wrong_works(1, 1), repr(sign))
            self.assertEqual(works_of(BOOK, f"stuff a{sign}stuff b"), wrong_works(1, 1), repr(sign))
            self.assertEqual(works_of(BOOK, f"stuff a\n{sign}"), wrong_works(2, 1), repr(sign))


if __name__ == "__main__":
    unittest.main()
