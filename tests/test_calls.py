"""The calls: texts as bytes, the order of the refusals, and that nothing is kept or changed."""

import unittest

from batchworks.works import check, claims, judge, recall, record, report, shown, works
from helper import (BOOK, PLANT, answer, as_bytes, check_of, judge_of, record_of, report_of, told, works_of,
                    wrong_day, wrong_works)

DAY = "0 lot a malt 30 900\n2 batch c brew\n7 say c smooth no\n7 till\n"
RECORD = told(record_of(DAY))
REPORT = told(report_of(DAY))
NO_BYTES = [[-1], [256], [-9223372036854775808], [9223372036854775807], [48, 1000], [10, -2]]


class Texts(unittest.TestCase):

    def test_numbers_that_are_no_bytes(self):
        for other in NO_BYTES:
            self.assertEqual(works_of(as_bytes(BOOK) + other), [-1], other)
            self.assertEqual(works_of(plant=as_bytes(PLANT) + other), [-1], other)
            self.assertEqual(check_of(DAY, recipes=other + as_bytes(BOOK)), [-1], other)
            self.assertEqual(check_of(DAY, plant=other + as_bytes(PLANT)), [-1], other)
            self.assertEqual(check_of(as_bytes(DAY) + other), [-1], other)

    def test_the_least_and_the_greatest_byte(self):
        for byte in [0, 255]:
            self.assertEqual(works_of([byte]), wrong_works(0, 8))
            self.assertEqual(works_of(plant=[byte]), wrong_works(1, 1))
            self.assertEqual(check_of([byte]), wrong_day(1, 1))

    def test_texts_have_at_most_6000_bytes(self):
        for fill in [" ", "\n"]:
            for length, right in [(5999, True), (6000, True), (6001, False), (16000, False)]:
                recipes = BOOK + fill * (length - len(BOOK))
                plant = PLANT + fill * (length - len(PLANT))
                day = DAY + fill * (length - len(DAY))
                self.assertEqual(works_of(recipes), [2, 2, 2, 1, 1] if right else [-1])
                self.assertEqual(works_of(plant=plant), [2, 2, 2, 1, 1] if right else [-1])
                self.assertEqual(check_of(day), [4, 1, 1] if right else [-1])
                self.assertEqual(check_of(DAY, recipes=recipes), [4, 1, 1] if right else [-1])
                self.assertEqual(check_of(DAY, plant=plant), [4, 1, 1] if right else [-1])

    def test_each_text_has_its_own_6000_bytes(self):
        recipes = BOOK + " " * (6000 - len(BOOK))
        plant = PLANT + " " * (6000 - len(PLANT))
        day = DAY + " " * (6000 - len(DAY))
        self.assertEqual(check_of(day, recipes, plant), [4, 1, 1])

    # Each byte alone, as a name behind a right line: only small letters make one.
    def test_every_byte_as_a_name(self):
        for byte in range(256):
            answered = works_of(plant=as_bytes("stuff ") + [byte])
            right = 97 <= byte <= 122
            self.assertEqual(answered, [2, 1, 0, 0, 0] if right else wrong_works(1, 1), byte)

    def test_every_byte_within_a_name(self):
        for byte in range(256):
            answered = works_of(plant=as_bytes("stuff a") + [byte] + as_bytes("b"))
            right = 97 <= byte <= 122 or 48 <= byte <= 57
            self.assertEqual(answered, [2, 1, 0, 0, 0] if right else wrong_works(1 if byte != 10 else 2, 1), byte)

    def test_every_byte_as_a_number(self):
        for byte in range(256):
            answered = check_of([byte] + as_bytes(" till"))
            right = 48 <= byte <= 57
            self.assertEqual(answered, [1, 0, 0] if right else wrong_day(1 if byte != 10 else 2, 1), byte)


class Refusals(unittest.TestCase):

    def test_no_bytes_go_before_all(self):
        self.assertEqual(works_of("", [-1]), [-1])
        self.assertEqual(works_of("recipe", "bad" + " " * 6000), [-1])
        self.assertEqual(works_of([300], "bad"), [-1])
        self.assertEqual(check_of([256], "", ""), [-1])
        self.assertEqual(check_of([256], BOOK, "bad"), [-1])
        self.assertEqual(check_of(" " * 6001, BOOK, "bad"), [-1])
        self.assertEqual(check_of("bad", BOOK, [-1]), [-1])
        self.assertEqual(check_of("bad", " " * 6001, "bad"), [-1])

    def test_the_works_goes_before_the_day(self):
        self.assertEqual(check_of("bad", "recipe", PLANT), wrong_works(0, 8))
        self.assertEqual(check_of("bad", BOOK, "stuff a\nbad"), wrong_works(2, 1))
        self.assertEqual(check_of("bad", "recipe a either or end end", ""), wrong_works(0, 6))
        self.assertEqual(check_of("bad", "recipe a do x end", "unit u 1\nclaim a u 2"), wrong_works(0, 7))
        self.assertEqual(check_of("bad"), wrong_day(1, 1))

    def test_check_refuses_what_works_refuses(self):
        for recipes, plant in [("", ""), ("recipe a either or end end", ""), (BOOK, "bad"), (BOOK, "stuff a\nstuff a"),
                               (BOOK, "\nunit u 1\ntake heat v 1"), (BOOK, "unit u 1\ntake heat u 1"),
                               (BOOK, "vessel v 1\npour heat v v 1"), (BOOK, [999])]:
            self.assertEqual(check_of(DAY, recipes, plant), works_of(recipes, plant))

    def test_the_numbers_of_refusals(self):
        self.assertEqual(works_of("", ""), [-1008])
        self.assertEqual(works_of("recipe a either or end end", ""), [-1006])
        self.assertEqual(works_of("recipe a do x end", "unit u 1\nclaim a u 2"), [-1007])
        self.assertEqual(works_of(BOOK, "bad"), [-1101])
        self.assertEqual(works_of(BOOK, "\n" * 11 + "ship heat v"), [-2203])
        self.assertEqual(check_of("bad"), [-500101])
        self.assertEqual(check_of("5 till\n" * 12 + "4 till"), [-501304])


# Recipes, works' texts and days that are refused, each with its refusal.
WRONG = [("", PLANT, DAY, [-1008]), ("recipe", PLANT, DAY, [-1008]), (BOOK + "x", PLANT, DAY, [-1008]),
         ("recipe a" + " do x" * 31 + " end", "", DAY, [-1008]), (BOOK, PLANT + "bad", DAY, [-2001]),
         (BOOK, PLANT + "stuff malt", DAY, [-2002]), (BOOK, PLANT + "ship x tun", DAY, [-2003]),
         (BOOK, PLANT + "pour heat tun tun 1", DAY, [-2004]),
         (BOOK, told([f"unit u{k} 1" for k in range(7)]), DAY, [-1705]),
         ("recipe a either or end end", "", DAY, [-1006]), ("recipe a do x end", "unit u 1\nclaim a u 2", DAY, [-1007]),
         ("recipe a do x end", "unit u 1\nclaim a u 1\ntake x u 1", DAY, [-1007]),
         (BOOK, PLANT, "bad", [-500101]), (BOOK, PLANT, DAY + "0 till 0", [-500501]),
         (BOOK, PLANT, DAY + "7 lot a malt 1 1", [-500502]), (BOOK, PLANT, DAY + "7 batch c brew", [-500502]),
         (BOOK, PLANT, DAY + "7 say d smooth no", [-500503]), (BOOK, PLANT, DAY + "6 till", [-500504]),
         (BOOK, PLANT, told(["0 till"] * 121), [-512105]),
         (BOOK, PLANT, told([f"0 batch b{k} brew" for k in range(21)]), [-502105])]


class CallsOfWorks(unittest.TestCase):

    def test_what_is_refused(self):
        for recipes, plant, refusal in [wrong[:2] + wrong[3:] for wrong in WRONG if wrong[3][0] > -500000]:
            for function in [works, claims, shown]:
                self.assertEqual(answer(function, recipes, plant), refusal)

    def test_no_bytes_go_before_all(self):
        for other in NO_BYTES + [[32] * 6001, [10] * 16000]:
            for recipes, plant in [(other, "bad"), ("bad", other), (other, PLANT), (BOOK, other), (other, other)]:
                for function in [works, claims, shown]:
                    self.assertEqual(answer(function, recipes, plant), [-1])

    def test_the_order_of_refusals(self):
        for function in [works, claims, shown]:
            self.assertEqual(answer(function, "recipe", "bad"), [-1008])
            self.assertEqual(answer(function, BOOK, "stuff a\nbad"), [-1201])
            self.assertEqual(answer(function, "recipe a either or end end", "bad"), [-1101])
            self.assertEqual(answer(function, "recipe a either or end end", "unit u 1\nclaim a u 2"), [-1006])
            self.assertEqual(answer(function, "recipe a end", "unit u 1\nclaim a u 2"), [-1007])

    def test_texts_of_6000_bytes(self):
        for fill in [" ", "\n"]:
            texts = [text + fill * (6000 - len(text)) for text in [BOOK, PLANT]]
            for function in [works, claims, shown]:
                self.assertEqual(answer(function, *texts), answer(function, BOOK, PLANT))


class CallsOfDays(unittest.TestCase):

    def test_what_check_refuses_is_refused(self):
        for recipes, plant, day, refusal in WRONG:
            self.assertEqual(answer(check, recipes, plant, day), refusal, refusal)
            self.assertEqual(answer(record, recipes, plant, day), refusal)
            self.assertEqual(answer(report, recipes, plant, day), refusal)
            for judged in [RECORD, "", "bad"]:
                self.assertEqual(answer(judge, recipes, plant, day, judged), refusal)
            for lot in ["a", "other", "", "?"]:
                self.assertEqual(answer(recall, recipes, plant, day, lot), refusal)

    def test_no_bytes_go_before_all(self):
        for other in NO_BYTES + [[32] * 6001, [10] * 16000]:
            for recipes, plant, day in [(other, "bad", "bad"), ("bad", other, "bad"), ("bad", "bad", other),
                                        (other, PLANT, DAY), (BOOK, other, DAY), (BOOK, PLANT, other)]:
                self.assertEqual(answer(record, recipes, plant, day), [-1])
                self.assertEqual(answer(judge, recipes, plant, day, RECORD), [-1])
                self.assertEqual(answer(judge, recipes, plant, day, [300]), [-1])
                self.assertEqual(answer(report, recipes, plant, day), [-1])
                for lot in ["a", "other", "", "?", "abcdefghijklm", [300]]:
                    self.assertEqual(answer(recall, recipes, plant, day, lot), [-1])

    def test_a_judged_record_that_is_no_text_goes_before_all(self):
        for other in [[-1], [256], [-65535], [65535], [48, 1000], [10] * 60001]:
            self.assertEqual(judge_of(other, DAY), [-1])
            for recipes, plant, day, refusal in WRONG:
                self.assertEqual(answer(judge, recipes, plant, day, other), [-1])

    def test_a_lot_s_name_that_is_no_text_goes_before_all(self):
        for other in NO_BYTES + [[97] * 13, [97] * 100, [300] * 13]:
            self.assertEqual(answer(recall, BOOK, PLANT, DAY, other), [-1])
            for recipes, plant, day, refusal in WRONG:
                self.assertEqual(answer(recall, recipes, plant, day, other), [-1])

    def test_the_recipes_go_before_the_works_and_the_works_before_the_day(self):
        for function, more in [(record, []), (judge, ["bad"]), (report, []), (recall, ["a"]), (recall, ["bad"])]:
            self.assertEqual(answer(function, "recipe", "bad", "bad", *more), [-1008])
            self.assertEqual(answer(function, BOOK, "stuff a\nbad", "bad", *more), [-1201])
            self.assertEqual(answer(function, "recipe a either or end end", "bad", "bad", *more), [-1101])
            self.assertEqual(answer(function, "recipe a either or end end", "", "bad", *more), [-1006])
            self.assertEqual(answer(function, BOOK, PLANT, "\nbad", *more), [-500201])

    def test_texts_of_6000_bytes(self):
        for fill in [" ", "\n"]:
            texts = [text + fill * (6000 - len(text)) for text in [BOOK, PLANT, DAY]]
            self.assertEqual(answer(record, *texts), [len(RECORD)] + as_bytes(RECORD))
            self.assertEqual(answer(judge, *texts, RECORD), [1])
            self.assertEqual(answer(report, *texts), [len(REPORT)] + as_bytes(REPORT))
            self.assertEqual(answer(recall, *texts, "a"), [20] + as_bytes("vessel tun 10 of 10\n"))
            self.assertEqual(answer(recall, *texts, "b"), [-2])

    def test_the_text_that_is_answered(self):
        self.assertEqual(answer(record, BOOK, PLANT, ""), [0])
        self.assertEqual(answer(record, BOOK, PLANT, "7 till"), [7, 55, 32, 116, 105, 108, 108, 10])
        self.assertEqual(answer(record, BOOK, PLANT, " 7  till \n\n7 till"), [14] + as_bytes("7 till\n") * 2)


class NothingKept(unittest.TestCase):

    def test_calls_behind_one_another_stand_for_themselves(self):
        other = told(record_of("0 lot a malt 9 9\n1 batch c brew\n2 batch d brew\n99 till"))
        calls = [(works, BOOK, PLANT), (check, BOOK, PLANT, DAY), (works, "", PLANT), (check, BOOK, PLANT, "bad"),
                 (works, "recipe a do x end", ""), (check, "recipe a do x end", "", DAY),
                 (works, BOOK, PLANT + "bad"), (check, BOOK, PLANT, "9 till\n8 till"), (works, [256], ""),
                 (check, "recipe z if c then else end end", "stuff q", "0 lot q q 1 1\n0 batch b z\n0 say b c no"),
                 (record, BOOK, PLANT, DAY), (judge, BOOK, PLANT, DAY, RECORD), (judge, BOOK, PLANT, DAY, other),
                 (record, BOOK, PLANT, "bad"), (judge, BOOK, PLANT, DAY, [-5]), (record, BOOK, PLANT, "3 till"),
                 (judge, BOOK, PLANT, DAY, RECORD.replace("order c", "order d")), (report, BOOK, PLANT, DAY),
                 (recall, BOOK, PLANT, DAY, "a"), (recall, BOOK, PLANT, DAY, "b"), (recall, BOOK, PLANT, "", "a"),
                 (report, BOOK, "", "3 till"), (recall, BOOK, PLANT, DAY.replace("7", "6"), "a"),
                 (claims, BOOK, PLANT), (shown, "recipe a end", "stuff m"), (claims, "recipe a end", "unit u 3"),
                 (shown, "recipe b end", ""), (claims, "", ""), (shown, BOOK, "bad")]
        first = [answer(*call) for call in calls]
        self.assertEqual(first, [[2, 2, 2, 1, 1], [4, 1, 1], [-1008], [-500101], [1, 0, 0, 0, 0], [-500103],
                                 [-2001], [-500204], [-1], [3, 1, 1], [len(RECORD)] + as_bytes(RECORD), [1], [0, 0],
                                 [-500101], [-1], [7] + as_bytes("3 till\n"), [0, 2], [len(REPORT)] + as_bytes(REPORT),
                                 [20] + as_bytes("vessel tun 10 of 10\n"), [-2], [-2], [7] + as_bytes("time 3\n"),
                                 [0], [2, 9, 2, 3, 0], [13] + as_bytes("recipe a end\n") + [8] + as_bytes("stuff m\n"),
                                 [1, 2, 0], [13] + as_bytes("recipe b end\n") + [0], [-1008], [-1101]])
        for turn in range(3):
            calls = calls[1:] + calls[:1]
            first = first[1:] + first[:1]
            self.assertEqual([answer(*call) for call in calls], first)

    def test_an_answer_that_is_changed_changes_no_other(self):
        handed = as_bytes(BOOK), as_bytes(PLANT)
        first = works(*handed)
        first.append(7)
        self.assertEqual(works(*handed), [2, 2, 2, 1, 1])

    def test_one_list_may_be_handed_in_for_several_texts(self):
        text = as_bytes("stuff a")
        self.assertEqual(works(text, text), wrong_works(0, 8))
        empty = []
        self.assertEqual(check(as_bytes(BOOK), empty, empty), [0, 0, 0])
        self.assertEqual(empty, [])


if __name__ == "__main__":
    unittest.main()
