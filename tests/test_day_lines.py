"""The day's text: what it counts, and its first wrong line with its first kind."""

import unittest

from helper import BOOK, PLANT, check_of, named, told, wrong_day, wrong_works

KEPT = "recipe end do takes to if then else either or both and again until use".split()
BEGUN = ["0 lot l malt 5 100", "0 batch b brew"]
RIGHT = ["0 lot m malt 5 100", "0 batch c rinse", "0 say b smooth yes", "0 say b smooth no", "0 till"]


def line_of(line, lines=()):
    """What is answered of this line behind BEGUN and these lines."""
    return check_of(told(BEGUN + list(lines) + [line]))


def lots(how_many):
    return [f"0 lot {name} malt 5 100" for name in named("x", how_many)]


def batches(how_many):
    return [f"0 batch {name} brew" for name in named("y", how_many)]


class Ordinary(unittest.TestCase):

    def test_a_day_is_counted(self):
        day = told(["0 lot a malt 30 900", "1 lot b wort 40 0", "2 batch c brew", "7 say c smooth no", "7 till",
                    "9 batch d rinse", "100000 till"])
        self.assertEqual(check_of(day), [7, 2, 2])

    def test_each_form(self):
        for line, answered in zip(RIGHT, [[3, 2, 1], [3, 1, 2], [3, 1, 1], [3, 1, 1], [3, 1, 1]]):
            self.assertEqual(line_of(line), answered, line)

    def test_an_empty_day(self):
        for day in ["", "\n", "  \n\n  ", " " * 6000, "\n" * 6000]:
            self.assertEqual(check_of(day), [0, 0, 0])

    def test_blanks_and_lines_without_words_say_nothing(self):
        self.assertEqual(check_of("\n\n   0    till \n \n 0 lot   l malt 5 100"), [2, 1, 0])

    def test_a_lot_and_a_batch_may_have_one_name(self):
        self.assertEqual(check_of("0 lot a malt 5 100\n0 batch a brew\n"), [2, 1, 1])
        self.assertEqual(check_of("0 batch a brew\n0 lot a malt 5 100\n"), [2, 1, 1])
        self.assertEqual(check_of("0 lot malt malt 5 100\n0 batch brew brew\n0 say brew smooth no\n"), [3, 1, 1])

    def test_any_condition_may_be_said_of_any_batch(self):
        self.assertEqual(check_of("0 batch a rinse\n0 say a smooth yes\n"), [2, 0, 1])

    def test_conditions_of_if_and_of_again(self):
        recipes = "recipe a if one then else end again until two end end"
        for condition, answered in [("one", [2, 0, 1]), ("two", [2, 0, 1]), ("three", wrong_day(2, 3)),
                                    ("a", wrong_day(2, 3))]:
            self.assertEqual(check_of(f"0 batch b a\n0 say b {condition} yes\n", recipes, ""), answered)


class Forms(unittest.TestCase):

    def test_a_word_less_or_more(self):
        for line in RIGHT:
            words = line.split()
            self.assertEqual(line_of(line + " x"), wrong_day(3, 1), line)
            self.assertEqual(line_of(line + " 1"), wrong_day(3, 1), line)
            for k in range(len(words)):
                less = " ".join(words[:k] + words[k + 1:])
                self.assertEqual(line_of(less), wrong_day(3, 1), less)

    def test_other_words(self):
        for line in ["till", "0", "0 0", "0 tell", "0 Till", "0 order", "0 order b", "0 stuff malt", "x", "0 end b",
                     "0 lots m malt 5 100", "0 lot m malt 5 100 0", "lot 0 m malt 5 100", "0 say b smooth maybe",
                     "0 say b smooth Yes", "0 say b smooth 1", "0 say b smooth yesno", "0 say b yes", "0 say smooth no",
                     "till 0", "0 till 0", "0 till till", "0 batch c", "0 say b smooth ye"]:
            self.assertEqual(line_of(line), wrong_day(3, 1), line)

    def test_each_name_is_a_name(self):
        bad = ["abcdefghijklm", "9", "9a", "A", "a_b", "a-b", "\xe4", "a\t", "a\r", "a\x00", "\x0b", "\xff"] + KEPT
        for form in ["0 lot NAME malt 5 100", "0 lot m NAME 5 100", "0 batch NAME brew", "0 batch c NAME",
                     "0 say NAME smooth yes", "0 say b NAME yes"]:
            for name in bad:
                self.assertEqual(line_of(form.replace("NAME", name)), wrong_day(3, 1), repr(name))

    def test_twelve_signs_of_a_name(self):
        for name in ["abcdefghijkl", "a23456789012", "z", "till", "yes", "no", "order", "lot"]:
            self.assertEqual(line_of(f"0 lot {name} malt 5 100"), [3, 2, 1])
            self.assertEqual(line_of(f"0 batch {name} brew"), [3, 1, 2])

    def test_each_number_is_a_number(self):
        bad = ["00", "01", "0000001", "00000001", "10000000", "-1", "+1", "1.0", "x", "1x", "\xb2", "1_0", "1\t", "0x1"]
        for form in ["N till", "N lot m malt 5 100", "N batch c brew", "N say b smooth yes", "0 lot m malt N 100",
                     "0 lot m malt 5 N"]:
            for number in bad:
                self.assertEqual(line_of(form.replace("N", number)), wrong_day(3, 1), (form, number))

    def test_the_greatest_and_the_least_numbers(self):
        for form in ["N till", "N lot m malt 5 100", "N batch c brew", "N say b smooth yes", "0 lot m malt 5 N"]:
            for number in ["0", "1", "99999", "100000"]:
                self.assertEqual(line_of(form.replace("N", number))[0], 3, (form, number))
            for number in ["100001", "1000000", "9999999"]:
                self.assertEqual(line_of(form.replace("N", number)), wrong_day(3, 1), (form, number))
        for number in ["1", "2", "999999", "1000000"]:
            self.assertEqual(line_of(f"0 lot m malt {number} 100"), [3, 2, 1])
        for number in ["0", "1000001", "9999999"]:
            self.assertEqual(line_of(f"0 lot m malt {number} 100"), wrong_day(3, 1))


class Told(unittest.TestCase):

    def test_told_already(self):
        for line in ["0 lot l malt 5 100", "0 lot l wort 6 90", "9 lot l malt 5 100", "0 batch b brew",
                     "0 batch b rinse"]:
            self.assertEqual(line_of(line), wrong_day(3, 2), line)

    def test_names_that_are_not_told(self):
        for line in ["0 lot m other 5 100", "0 lot m tun 5 100", "0 lot m brew 5 100", "0 batch c other",
                     "0 batch c malt", "0 batch c heat", "0 say c smooth yes", "0 say l smooth yes",
                     "0 say brew smooth yes", "0 say b other no", "0 say b heat no", "0 say b brew yes",
                     "0 say other other yes"]:
            self.assertEqual(line_of(line), wrong_day(3, 3), line)

    def test_what_is_told_behind_the_line_that_names_it(self):
        self.assertEqual(check_of("0 say b smooth yes\n0 batch b brew\n"), wrong_day(1, 3))

    def test_minutes_do_not_fall(self):
        for line in ["4 till", "0 lot m malt 5 100", "4 batch c brew", "3 say b smooth no"]:
            self.assertEqual(line_of(line, ["5 till"]), wrong_day(4, 4), line)
            self.assertEqual(line_of(line, ["5 till", "", " "]), wrong_day(6, 4), line)
            self.assertEqual(line_of(line, ["2 till", "5 lot n malt 1 1"]), wrong_day(5, 4), line)
        for line in ["5 till", "5 lot m malt 5 0", "6 batch c brew", "5 say b smooth no"]:
            self.assertEqual(line_of(line, ["5 till"])[0], 4, line)

    def test_minutes_are_compared_as_numbers(self):
        self.assertEqual(check_of("9 till\n10 till\n"), [2, 0, 0])
        self.assertEqual(check_of("10 till\n9 till\n"), wrong_day(2, 4))


class TooMany(unittest.TestCase):

    def test_forty_lots(self):
        self.assertEqual(check_of(told(lots(40))), [40, 40, 0])
        self.assertEqual(check_of(told(lots(41))), wrong_day(41, 5))
        self.assertEqual(check_of(told(lots(40) + batches(1))), [41, 40, 1])

    def test_twenty_batches(self):
        self.assertEqual(check_of(told(batches(20))), [20, 0, 20])
        self.assertEqual(check_of(told(batches(21))), wrong_day(21, 5))
        self.assertEqual(check_of(told(batches(20) + lots(1))), [21, 1, 20])

    def test_a_hundred_and_twenty_orders(self):
        lines = lots(40) + batches(20) + ["0 till"] * 59
        for line in ["0 till", "0 say y1 smooth no"]:
            self.assertEqual(check_of(told(lines + [line])), [120, 40, 20])
            self.assertEqual(check_of(told(lines + ["0 till", line])), wrong_day(121, 5))
        self.assertEqual(check_of(told(["0 till"] * 120 + ["0 lot a malt 1 1"])), wrong_day(121, 5))
        self.assertEqual(check_of(told(["0 till"] * 120 + ["0 batch a brew"])), wrong_day(121, 5))
        self.assertEqual(check_of(told(["0 till"] * 119 + ["0 batch a brew", "", " "])), [120, 0, 1])


class SeveralKinds(unittest.TestCase):

    def test_a_wrong_form_goes_before_all(self):
        for line in ["0 lot l malt 5", "0 lot l other 0 100", "0 batch b other x", "0 say c other maybe", "x till",
                     "4 lot l malt 1000001 1", "4 tell"]:
            self.assertEqual(line_of(line, ["5 till"]), wrong_day(4, 1), line)

    def test_the_kinds_of_lots(self):
        lines = ["5 batch b brew"] + ["5" + line[1:] for line in lots(40)] + ["5 till"] * 79
        for line, kind in [("4 lot x0 other 5 Z", 1), ("4 lot x0 other 5 1", 2), ("4 lot x0 malt 5 1", 2),
                           ("4 lot z other 5 1", 3), ("4 lot z malt 5 1", 5), ("5 lot z malt 5 1", 5),
                           ("5 lot x0 malt 5 1", 2), ("5 lot z other 5 1", 3)]:
            self.assertEqual(check_of(told(lines + [line])), wrong_day(121, kind), line)
            self.assertEqual(check_of(told(lines[:41] + [line])), wrong_day(42, kind), line)

    def test_the_kinds_of_batches(self):
        lines = ["5" + line[1:] for line in batches(20)] + ["5 till"] * 100
        for line, kind in [("4 batch y0 other x", 1), ("4 batch y0 other", 2), ("4 batch y0 brew", 2),
                           ("4 batch z other", 3), ("4 batch z brew", 5), ("5 batch z brew", 5),
                           ("5 batch y0 brew", 2), ("5 batch z other", 3)]:
            self.assertEqual(check_of(told(lines + [line])), wrong_day(121, kind), line)
            self.assertEqual(check_of(told(lines[:20] + [line])), wrong_day(21, kind), line)

    def test_the_kinds_of_lesser_minutes(self):
        for line, kind in [("4 lot l malt 5 1", 2), ("4 lot m other 5 1", 3), ("4 lot m malt 5 1", 4),
                           ("4 batch b brew", 2), ("4 batch c other", 3), ("4 batch c brew", 4),
                           ("4 say c smooth no", 3), ("4 say b other no", 3), ("4 say b smooth no", 4), ("4 till", 4)]:
            self.assertEqual(line_of(line, ["5 till"]), wrong_day(4, kind), line)

    def test_lesser_minutes_go_before_too_many_orders(self):
        lines = BEGUN + ["5 till"] * 118
        for line, kind in [("4 till", 4), ("5 till", 5), ("6 till", 5), ("4 say b smooth no", 4),
                           ("5 say b smooth no", 5), ("5 say c smooth no", 3), ("4 lot m malt 1 1", 4),
                           ("5 lot m malt 1 1", 5), ("4 batch c brew", 4), ("5 batch c brew", 5), ("5 tell", 1)]:
            self.assertEqual(check_of(told(lines + [line])), wrong_day(121, kind), line)


class FirstWrongLine(unittest.TestCase):

    def test_of_several_wrong_lines_the_first_is_told(self):
        wrong = [("bad", 1), ("5 lot l malt 1 1", 2), ("5 batch c other", 3), ("0 till", 4)]
        for first, kind in wrong:
            for second, other in wrong:
                self.assertEqual(line_of(second, ["5 till", first]), wrong_day(4, kind))
                self.assertEqual(line_of(second, ["5 till", "", first, " "]), wrong_day(5, kind))

    def test_lines_without_words_are_numbered_too(self):
        self.assertEqual(check_of("bad"), wrong_day(1, 1))
        self.assertEqual(check_of("\n \nbad\n"), wrong_day(3, 1))
        self.assertEqual(check_of("\n" * 5997 + "bad"), wrong_day(5998, 1))
        self.assertEqual(check_of("\n" * 5988 + "0 say b c no"), wrong_day(5989, 3))

    def test_long_lines(self):
        self.assertEqual(check_of("0 " + "a" * 5998), wrong_day(1, 1))
        self.assertEqual(check_of("0" * 6000), wrong_day(1, 1))
        self.assertEqual(check_of("0 " * 3000), wrong_day(1, 1))

    def test_other_signs_do_not_part_words_or_lines(self):
        for sign in ["\t", "\r", "\x0b", "\x0c", "\x1c", "\x85", "\xa0", "\x00"]:
            self.assertEqual(check_of(f"0{sign}till"), wrong_day(1, 1), repr(sign))
            self.assertEqual(check_of(f"0 till{sign}0 till"), wrong_day(1, 1), repr(sign))
            self.assertEqual(check_of(f"0 till\n{sign}"), wrong_day(2, 1), repr(sign))

    def test_the_works_text_goes_before_the_day(self):
        self.assertEqual(check_of("bad", plant=PLANT + "bad"), wrong_works(10, 1))
        self.assertEqual(check_of("bad", recipes=BOOK + "bad"), wrong_works(0, 8))


if __name__ == "__main__":
    unittest.main()
