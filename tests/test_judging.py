"""Records that are judged: which are good, and of the others how many lines are alike."""

import itertools
import unittest

from batchworks.works import check, judge, record
from helper import answer, as_bytes, judge_of, record_of, text_in, told

RECIPES = "recipe a do w takes 1 to 1 do x takes 2 to 2 end recipe c do y takes 9 to 9 do x do g end"
PLANT = told(["stuff m", "vessel v 9", "unit u 4", "claim a u 1", "claim c u 3", "take x u 1", "take y u 2",
              "give x u 1", "give g u 2", "charge x v m 1"])
DAY = told(["0 lot l m 5 99", "0 batch p a", "0 batch q c", "0 batch r a", "5 till", "6 batch s a", "7 till"])
# Where r begins x all four units are held, and q still wants one of those that p and r hold.
RECORD = ["0 lot l m 5 99", "0 batch p a", "0 begin p w", "0 batch q c", "0 begin q y", "order p q", "0 batch r a",
          "0 begin r w", "1 end p w", "1 begin p x", "order p q r", "1 end r w", "1 begin r x", "order p q r",
          "3 end p x", "charge v l 1", "3 done p", "3 end r x", "charge v l 1", "3 done r", "5 till", "6 batch s a",
          "6 begin s w", "7 end s w", "7 begin s x", "order q s", "7 till"]
ALL = len(RECORD)
ORDERS = {5: "p q", 10: "p q r", 13: "p q r", 25: "q s"}


def judged(lines):
    return judge_of(told(lines), DAY, RECIPES, PLANT)


def with_order(place, *names):
    """The record with this order in the place of one that it has."""
    lines = list(RECORD)
    assert lines[place].startswith("order")
    lines[place] = " ".join(["order"] + list(names))
    return lines


class Good(unittest.TestCase):

    def test_the_record_of_the_day(self):
        self.assertEqual(record_of(DAY, RECIPES, PLANT), RECORD)

    def test_the_record_itself_is_good(self):
        self.assertEqual(judged(RECORD), [1])

    def test_with_and_without_the_last_line_s_end(self):
        self.assertEqual(judge_of("\n".join(RECORD), DAY, RECIPES, PLANT), [1])
        self.assertEqual(judge_of("\n".join(RECORD) + "\n", DAY, RECIPES, PLANT), [1])
        self.assertEqual(judge_of("\n".join(RECORD) + "\n\n", DAY, RECIPES, PLANT), [0, ALL])

    def test_an_empty_record_of_an_empty_day(self):
        for day in ["", "\n", "  \n "]:
            self.assertEqual(judge_of("", day, RECIPES, PLANT), [1])
            self.assertEqual(judge_of("\n", day, RECIPES, PLANT), [0, 0])
            self.assertEqual(judge_of(" ", day, RECIPES, PLANT), [0, 0])
            self.assertEqual(judge_of("order", day, RECIPES, PLANT), [0, 0])

    def test_an_empty_record(self):
        self.assertEqual(judged([]), [0, 0])
        self.assertEqual(judge_of("\n", DAY, RECIPES, PLANT), [0, 0])

    def test_a_record_without_orders(self):
        self.assertEqual(judge_of("0 till\n7 till\n", "0 till\n7 till", RECIPES, PLANT), [1])
        self.assertEqual(judge_of("0 till\n7 till\n", "0 till\n8 till", RECIPES, PLANT), [0, 1])

    def test_the_record_of_any_day(self):
        for how_many in range(5):
            day = told(DAY.split("\n")[:how_many])
            self.assertEqual(judge_of(told(record_of(day, RECIPES, PLANT)), day, RECIPES, PLANT), [1])


class OtherOrders(unittest.TestCase):

    def test_any_right_order_is_good(self):
        for place, names in [(5, "q p"), (10, "p r q"), (10, "q p r"), (10, "q r p"), (10, "r p q"), (10, "r q p"),
                             (13, "p r q"), (13, "r p q"), (13, "r q p"), (25, "s q")]:
            self.assertEqual(judged(with_order(place, *names.split())), [1], names)

    def test_several_other_orders_are_good_together(self):
        lines = with_order(5, "q", "p")
        lines[10] = "order q r p"
        lines[13] = "order r q p"
        lines[25] = "order s q"
        self.assertEqual(judged(lines), [1])

    def test_a_batch_that_can_not_be_ended_in_its_place(self):
        for names in ["q p r", "q r p"]:
            self.assertEqual(judged(with_order(13, *names.split())), [0, 12])

    # d holds nothing, so when it is ended no more is free than before, and b still wants three of two.
    def test_what_a_batch_holds_gets_free_and_no_more(self):
        recipes = "recipe c do x takes 9 to 9 do g end recipe a do w takes 1 to 1 do x do g end"
        plant = told(["unit u 4", "claim a u 2", "claim c u 4", "take x u 1", "give g u 1"])
        day = told(["0 batch b c", "0 batch c a", "0 batch d a", "1 till"])
        lines = record_of(day, recipes, plant)
        place = lines.index("order c b d")
        for names, right in [("c d b", True), ("d c b", True), ("c b d", True), ("d b c", False), ("b c d", False)]:
            other = lines[:place] + ["order " + names] + lines[place + 1:]
            self.assertEqual(judge_of(told(other), day, recipes, plant), [1] if right else [0, place - 1], names)

    def test_an_order_that_is_not_right(self):
        for place, under_way in ORDERS.items():
            names = under_way.split()
            wrong = [names[:-1], names[1:], names + names[-1:], names[:1] + names, names + ["t"], ["t"] + names[1:],
                     [], names[:-1] + ["l"], names[:-1] + ["a"], names[:-1] + ["order"], names + ["order"],
                     names[:-1] + [names[-1].upper()], names[:-1] + [names[-1] + "1"], names[:-1] + ["\xe9"],
                     names[:-1] + ["10"], [names[0]] * len(names)]
            for other in wrong:
                self.assertEqual(judged(with_order(place, *other)), [0, place - 1], other)

    def test_a_batch_that_is_done_is_not_to_be_told(self):
        for names in ["p q s", "q s p", "q s r"]:
            self.assertEqual(judged(with_order(25, *names.split())), [0, 24])

    def test_a_batch_that_is_not_yet_begun_is_not_to_be_told(self):
        self.assertEqual(judged(with_order(5, "p", "q", "r")), [0, 4])


class Places(unittest.TestCase):
    """Three batches want two of a unit one by one, and there are three: few orders are right."""

    RECIPES = "recipe a do x takes 2 to 2 do y takes 2 to 2 do z end"
    PLANT = told(["unit u 3", "claim a u 2", "take x u 1", "take y u 1", "give z u 2"])
    DAY = told(["0 batch b a", "0 batch c a", "0 batch d a", "4 till"])

    def test_each_place(self):
        lines = record_of(self.DAY, self.RECIPES, self.PLANT)
        right = {2: ["b"], 5: ["b c", "c b"], 9: ["b c d", "b d c"], 16: ["c d"], 18: ["c d"]}
        self.assertEqual({k for k, line in enumerate(lines) if line.startswith("order")}, set(right))
        for place, orders in right.items():
            for length in range(4):
                for other in itertools.product("bcd", repeat=length):
                    changed = list(lines)
                    changed[place] = " ".join(["order", *other])
                    expected = [1] if " ".join(other) in orders else [0, place - 1]
                    self.assertEqual(judge_of(told(changed), self.DAY, self.RECIPES, self.PLANT), expected, changed)


class Lines(unittest.TestCase):

    def test_a_line_is_changed(self):
        for place in range(len(RECORD)):
            if not RECORD[place].startswith("order"):
                for other in ["x", RECORD[place] + " x", RECORD[place][1:], "9" + RECORD[place], RECORD[place][:-1],
                              RECORD[place].upper(), "\xff" + RECORD[place][1:], ""]:
                    lines = RECORD[:place] + [other] + RECORD[place + 1:]
                    self.assertEqual(judged(lines), [0, place], (place, other))

    def test_a_line_is_missing(self):
        for place in range(len(RECORD)):
            lines = RECORD[:place] + RECORD[place + 1:]
            # Without the order at 10 the one at 13 is taken for it, and it's right there.
            expected = {5: 4, 13: 12, 25: 24}.get(place, place)
            self.assertEqual(judged(lines), [0, expected], place)

    # A line more that is no order changes nothing of what is carried out.
    def test_a_line_is_added(self):
        for place in range(len(RECORD) + 1):
            for other in ["x", "", " ", "5 till till", "1 order p q", "orders", "Order p q", "orderp"]:
                self.assertEqual(judged(RECORD[:place] + [other] + RECORD[place:]), [0, place], (place, other))

    def test_the_record_is_cut_off(self):
        for length in range(len(RECORD)):
            expected = length - 1 if length in ORDERS else length
            self.assertEqual(judged(RECORD[:length]), [0, expected], length)

    def test_the_record_goes_on(self):
        for more in [["5 till"], ["order p"], ["order"], [""], ["", ""], ["6 till", "7 till"], RECORD]:
            self.assertEqual(judged(RECORD + more), [0, ALL])

    def test_the_last_line_is_without_its_last_sign(self):
        self.assertEqual(judge_of(told(RECORD)[:-2], DAY, RECIPES, PLANT), [0, ALL - 1])

    def test_lines_are_told_in_another_order(self):
        self.assertEqual(judged(RECORD[::-1]), [0, 0])
        self.assertEqual(judged(RECORD[1:2] + RECORD[:1] + RECORD[2:]), [0, 0])

    def test_two_records(self):
        self.assertEqual(judged(["0 till"]), [0, 0])
        self.assertEqual(judged(RECORD[:8]), [0, 8])


class Blanks(unittest.TestCase):

    def test_blanks_are_changed(self):
        for place in range(len(RECORD)):
            for other in [" " + RECORD[place], RECORD[place] + " ", RECORD[place].replace(" ", "  ", 1),
                          "  " + RECORD[place] + "  "]:
                lines = RECORD[:place] + [other] + RECORD[place + 1:]
                self.assertEqual(judged(lines), [0, place], (place, other))

    # Such an order is taken, and it is right; what's written has one blank between.
    def test_an_order_with_other_blanks_is_taken(self):
        lines = with_order(5, "p", " q")
        lines[10] = "  order   p  q r "
        self.assertEqual(judged(lines), [0, 5])
        lines = with_order(10, "p", " q", "r")
        lines[13] = "order r"
        self.assertEqual(judged(lines), [0, 10])
        self.assertEqual(judged(RECORD[:5] + [" order p q"]), [0, 5])

    def test_other_signs_are_no_blanks(self):
        for sign in ["\t", "\r", "\x0b", "\x00", "\xa0"]:
            self.assertEqual(judged(with_order(5, f"p{sign}q")), [0, 4])
            self.assertEqual(judged(with_order(5, "p", f"q{sign}")), [0, 4])
            self.assertEqual(judged([f"{sign}" + RECORD[0]] + RECORD[1:]), [0, 0])
        self.assertEqual(judge_of("\r\n".join(RECORD) + "\r\n", DAY, RECIPES, PLANT), [0, 0])


class Taken(unittest.TestCase):
    """Which of a record's lines are taken for orders."""

    ORDERS = [line for line in RECORD if line.startswith("order")]
    OTHERS = [line for line in RECORD if not line.startswith("order")]

    # They're taken one behind the other, wherever they stand; the lines are alike no further.
    def test_orders_in_other_places(self):
        self.assertEqual(judged(self.ORDERS + self.OTHERS), [0, 0])
        self.assertEqual(judged(self.OTHERS + self.ORDERS), [0, 5])
        self.assertEqual(judged(RECORD[:10] + RECORD[11:13] + [RECORD[10]] + RECORD[13:]), [0, 10])

    def test_an_order_less(self):
        self.assertEqual(judged(RECORD[:5] + RECORD[6:]), [0, 4])
        self.assertEqual(judged(RECORD[:25] + RECORD[26:]), [0, 24])
        self.assertEqual(judged(self.OTHERS), [0, 4])

    # It's taken for the next that is written behind it, and the record's own for the one behind that.
    def test_an_order_more(self):
        for place, expected in [(0, 0), (4, 4), (5, 6), (6, 6), (7, 7), (9, 9), (10, 9), (11, 11), (13, 12), (14, 14),
                                (24, 24), (25, 24), (26, 26), (27, 27)]:
            self.assertEqual(judged(RECORD[:place] + ["order p q"] + RECORD[place:]), [0, expected], place)

    # Carrying out stops at the second, though lines behind it are alike.
    def test_where_carrying_out_stops_no_more_is_written(self):
        lines = with_order(10, "p", "q")
        self.assertEqual(judged(lines), [0, 9])
        self.assertEqual(judged(lines[:9]), [0, 9])
        self.assertEqual(judged(lines[:8]), [0, 8])

    # All lines that were written are this record, but an order was lacking.
    def test_a_record_that_ends_where_carrying_out_stops(self):
        for length in [4, 9, 12, 24]:
            self.assertEqual(judged(RECORD[:length]), [0, length])

    def test_days_that_write_other_orders(self):
        other = DAY.replace("0 batch r a", "0 batch t a")
        self.assertEqual(judge_of(told(RECORD), other, RECIPES, PLANT), [0, 6])
        self.assertEqual(judge_of(told(RECORD), DAY + "9 till\n", RECIPES, PLANT), [0, ALL])
        self.assertEqual(judge_of(told(RECORD), DAY.replace("5 till", "4 till"), RECIPES, PLANT), [0, 20])


LONG_RECIPES = "recipe a again " + " ".join(f"do s{k} takes 1 to 1" for k in range(20)) + " until c end end"
LONG_PLANT = told(["stuff m", "unit u 99", "claim a u 9"]
                  + [f"{word} s{k} u 1" for word in ["take", "give"] for k in range(20)])


def long_day(lots):
    orders = [f"0 batch b{k} a" for k in range(8)]
    return told(lots + orders + [f"{20 * (k // 8 + 1)} say b{k % 8} c no" for k in range(48)])


def lot_of_length(k, length):
    """A lot's order of 16 to 36 bytes, with its line's end."""
    more = length - 16
    name, amount, last = min(9, more), max(0, min(6, more - 9)), max(0, more - 15)
    return f"0 lot l{k}{'x' * name} m 1{'0' * amount} 1{'0' * last}"


class Length(unittest.TestCase):

    # Forty lots lengthen the record of a day that is a bit too short.
    def day_of_length(self, length):
        lacking = length - record(*[as_bytes(text) for text in [LONG_RECIPES, LONG_PLANT, long_day([])]])[0]
        lengths = [lacking // 40 + (1 if k < lacking % 40 else 0) for k in range(40)]
        return long_day([lot_of_length(10 + k, each) for k, each in enumerate(lengths)])

    def test_a_record_has_at_most_60000_bytes(self):
        for length, expected in [(59999, [1]), (60000, [1]), (60001, [-1])]:
            day = self.day_of_length(length)
            text = text_in(answer(record, LONG_RECIPES, LONG_PLANT, day))
            self.assertEqual(len(text), length)
            self.assertEqual(judge_of(text, day, LONG_RECIPES, LONG_PLANT), expected)

    def test_without_the_last_end_it_has_60000(self):
        day = self.day_of_length(60001)
        text = text_in(answer(record, LONG_RECIPES, LONG_PLANT, day))
        self.assertEqual(judge_of(text[:-1], day, LONG_RECIPES, LONG_PLANT), [1])
        # The last line is an order, so without its last sign its begin isn't written either.
        self.assertEqual(judge_of(text[:60000 - 1], day, LONG_RECIPES, LONG_PLANT), [0, text.count("\n") - 2])

    def test_long_records_of_nothing(self):
        for fill in ["\n", " ", "x", "order\n"]:
            text = (fill * 60000)[:60000]
            self.assertEqual(judge_of(text, DAY, RECIPES, PLANT), [0, 0])
            self.assertEqual(judge_of(text + "\n", DAY, RECIPES, PLANT), [-1])
            padded = told(RECORD) + text[:60000 - len(told(RECORD))]
            self.assertEqual(judge_of(padded, DAY, RECIPES, PLANT), [0, ALL])


class Bytes(unittest.TestCase):

    def test_numbers_that_are_no_bytes(self):
        for other in [-1, 256, 300, -65535, 65535, 65536 + 10]:
            for place in [0, 5, len(told(RECORD))]:
                handed = as_bytes(told(RECORD))
                handed.insert(place, other)
                self.assertEqual(judge_of(handed, DAY, RECIPES, PLANT), [-1])

    # Every byte at the end of the first line's word, and alone in a line behind.
    def test_every_byte(self):
        for byte in range(256):
            handed = as_bytes(told(RECORD)) + [byte]
            self.assertEqual(judge_of(handed, DAY, RECIPES, PLANT), [0, ALL], byte)
            handed = [byte] + as_bytes(told(RECORD))
            self.assertEqual(judge_of(handed, DAY, RECIPES, PLANT), [0, 0], byte)
            handed = [byte] + as_bytes(told(RECORD))[1:]
            self.assertEqual(judge_of(handed, DAY, RECIPES, PLANT), [1] if byte == 48 else [0, 0], byte)

    def test_what_is_handed_in_and_what_is_given_back_are_apart(self):
        handed = [as_bytes(text) for text in [RECIPES, PLANT, DAY]]
        self.assertEqual(check(*handed), [7, 1, 4])
        first = record(*handed)
        second = list(first)
        first.clear()
        self.assertEqual(record(*handed), second)
        self.assertEqual(judge(*handed, second[1:]), [1])


if __name__ == "__main__":
    unittest.main()
