"""Recalls: which places hold any of a lot, how much of it, and how much there is in all."""

import unittest
from fractions import Fraction

from batchworks.works import recall
from helper import BOOK, PLANT, answer, as_bytes, recall_of, record_of, text_in, told, wrong_day, wrong_works

STUFFS = ["stuff m", "stuff n", "stuff o"]
VESSELS = ["vessel w 100", "vessel a 100", "vessel v 100"]
LOTS = ["0 lot k m 50 90", "0 lot l n 50 90", "0 lot j m 50 99"]
NOWHERE = [-2]


def plant_of(doings):
    return told(STUFFS + VESSELS + [f"{doing.split()[0]} x {' '.join(doing.split()[1:])}" for doing in doings])


def places(lot, doings, lots=LOTS, batches=1):
    """The recall behind so many batches that do the doings in one step each."""
    day = told(lots + [f"1 batch b{k} r" for k in range(batches)] + ["2 till"])
    lines = record_of(day, "recipe r do x end", plant_of(doings))
    assert len([line for line in lines if line.startswith("1 end")]) == batches
    return recall_of(lot, day, "recipe r do x end", plant_of(doings))


def asked(lot, day="0 lot l malt 5 9\n0 till\n", recipes=BOOK, plant=PLANT):
    return answer(recall, recipes, plant, day, lot)


class Places(unittest.TestCase):

    def test_nowhere(self):
        for doings in [[], ["charge v n 3"], ["charge v n 3", "ship v"], ["empty v w", "ship v"]]:
            self.assertEqual(places("k", doings), [])
            self.assertEqual(places("j", doings), [])

    def test_the_text_that_is_answered(self):
        self.assertEqual(asked("l"), [0])
        day = "0 lot l malt 15 9\n0 batch b brew\n5 till\n"
        self.assertEqual(asked("l", day), [20] + as_bytes("vessel tun 10 of 10\n"))
        self.assertEqual(text_in(asked("l", day.replace("5 till", "4 till"))), "")

    def test_in_one_vessel(self):
        self.assertEqual(places("k", ["charge v m 7"]), ["vessel v 7 of 7"])
        self.assertEqual(places("k", ["charge a m 50"]), ["vessel a 50 of 50"])
        self.assertEqual(places("k", ["charge w m 3", "charge w n 4", "charge w m 1"]), ["vessel w 4 of 8"])
        self.assertEqual(places("l", ["charge w m 3", "charge w n 4", "charge w m 1"]), ["vessel w 4 of 8"])

    # Neither by name nor in the order in which they were filled.
    def test_vessels_stand_in_the_order_of_their_lines(self):
        doings = ["charge v m 1", "charge a m 2", "charge w m 3"]
        self.assertEqual(places("k", doings), ["vessel w 3 of 3", "vessel a 2 of 2", "vessel v 1 of 1"])
        self.assertEqual(places("k", doings[:2]), ["vessel a 2 of 2", "vessel v 1 of 1"])
        self.assertEqual(places("k", doings[1:]), ["vessel w 3 of 3", "vessel a 2 of 2"])

    def test_in_shipments(self):
        self.assertEqual(places("k", ["charge v m 7", "ship v"]), ["shipment 0 7 of 7"])
        doings = ["charge v m 2", "ship v", "charge w n 3", "ship w", "charge a m 4", "charge a n 5", "ship a"]
        self.assertEqual(places("k", doings), ["shipment 0 2 of 2", "shipment 2 4 of 9"])
        self.assertEqual(places("l", doings), ["shipment 1 3 of 3", "shipment 2 5 of 9"])
        self.assertEqual(places("k", doings, batches=2),
                         ["shipment 0 2 of 2", "shipment 2 4 of 9", "shipment 3 2 of 2", "shipment 5 4 of 9"])

    def test_shipments_stand_by_number(self):
        lines = places("k", ["charge v m 1", "ship v"], batches=12)
        self.assertEqual(lines, [f"shipment {k} 1 of 1" for k in range(12)])

    def test_a_ship_of_an_empty_vessel_is_no_shipment(self):
        doings = ["ship v", "ship w", "charge v m 1", "ship v", "ship v", "charge v m 2", "ship v"]
        self.assertEqual(places("k", doings), ["shipment 0 1 of 1", "shipment 1 2 of 2"])

    def test_in_vessels_and_shipments(self):
        doings = ["charge v m 5", "ship v", "charge a m 6", "charge w m 7", "charge w n 1", "charge v m 2", "ship v",
                  "charge v m 3"]
        self.assertEqual(places("k", doings),
                         ["vessel w 7 of 8", "vessel a 6 of 6", "vessel v 3 of 3", "shipment 0 5 of 5",
                          "shipment 1 2 of 2"])
        self.assertEqual(places("l", doings), ["vessel w 1 of 8"])

    def test_a_vessel_that_was_emptied_holds_none(self):
        self.assertEqual(places("k", ["charge v m 5", "empty v w"]), ["vessel w 5 of 5"])
        self.assertEqual(places("k", ["charge v m 5", "pour v w 5"]), ["vessel w 5 of 5"])
        self.assertEqual(places("k", ["charge v m 5", "empty v w", "ship w"]), ["shipment 0 5 of 5"])
        self.assertEqual(places("k", ["charge v m 5", "empty v w", "charge v n 2"]), ["vessel w 5 of 5"])

    def test_lots_that_are_drawn_from_together(self):
        doings = ["charge v m 60"]
        self.assertEqual(places("k", doings), ["vessel v 50 of 60"])
        self.assertEqual(places("j", doings), ["vessel v 10 of 60"])
        self.assertEqual(places("l", doings), [])

    # What is shipped stays as it was, whatever becomes of the vessel.
    def test_a_shipment_stays_as_it_was(self):
        doings = ["charge v m 6", "ship v", "charge v m 4", "turn v m n 1 3", "empty v w"]
        self.assertEqual(places("k", doings), ["vessel w 4 of 4", "shipment 0 6 of 6"])

    # The last step isn't done for its charge can't be: nothing it would do is told.
    def test_what_could_not_be_done_is_nowhere(self):
        plant = told(STUFFS + VESSELS + ["charge x v m 5", "charge y w m 5", "ship y v", "charge y w o 1"])
        day = told(LOTS + ["1 batch b r", "5 till"])
        self.assertEqual(recall_of("k", day, "recipe r do x do y end", plant), ["vessel v 5 of 5"])
        more = "3 lot p o 1 9\n5 till\n"
        self.assertEqual(recall_of("k", day[:-7] + more, "recipe r do x do y end", plant),
                         ["vessel w 5 of 6", "shipment 0 5 of 5"])


class Amounts(unittest.TestCase):

    # k and l are 3 and 4 of 7, so of what's poured a seventh of each is told.
    def test_shares_of_a_pour(self):
        for amount, k_poured, k_left, l_poured, l_left in [
                (1, "3/7", "18/7", "4/7", "24/7"), (2, "6/7", "15/7", "8/7", "20/7"),
                (3, "9/7", "12/7", "12/7", "16/7"), (6, "18/7", "3/7", "24/7", "4/7")]:
            doings = ["charge v m 3", "charge v n 4", f"pour v w {amount}"]
            left = 7 - amount
            self.assertEqual(places("k", doings), [f"vessel w {k_poured} of {amount}", f"vessel v {k_left} of {left}"])
            self.assertEqual(places("l", doings), [f"vessel w {l_poured} of {amount}", f"vessel v {l_left} of {left}"])
            self.assertEqual(places("k", doings + ["ship w"]),
                             [f"vessel v {k_left} of {left}", f"shipment 0 {k_poured} of {amount}"])

    def test_terms_are_the_lowest(self):
        for m, n, poured, expected in [(2, 4, 3, ["vessel w 1 of 3", "vessel v 1 of 3"]),
                                       (2, 2, 3, ["vessel w 3/2 of 3", "vessel v 1/2 of 1"]),
                                       (6, 9, 10, ["vessel w 4 of 10", "vessel v 2 of 5"]),
                                       (50, 25, 1, ["vessel w 2/3 of 1", "vessel v 148/3 of 74"])]:
            self.assertEqual(places("k", [f"charge v m {m}", f"charge v n {n}", f"pour v w {poured}"]), expected)

    def test_several_stuffs_of_one_lot_count_together(self):
        for turns in [["turn v m n 1 3"], ["turn v m n 1 3", "turn v n o 5 7"], ["turn v m o 1 1"],
                      ["turn v m n 1 997", "turn v m o 1 991", "turn v n o 2 983"]]:
            self.assertEqual(places("k", ["charge v m 5"] + turns), ["vessel v 5 of 5"])
            self.assertEqual(places("k", ["charge v m 5"] + turns + ["charge v m 1"]), ["vessel v 6 of 6"])
            self.assertEqual(places("k", ["charge v m 5"] + turns + ["ship v"]), ["shipment 0 5 of 5"])
            self.assertEqual(places("k", ["charge v m 5", "charge v n 2"] + turns + ["pour v a 3"]),
                             ["vessel a 15/7 of 3", "vessel v 20/7 of 4"])

    # The stuff that l turned to is that of k, but each stays what it is of.
    def test_lots_of_one_stuff_are_told_apart(self):
        doings = ["charge v m 3", "charge v n 5", "turn v n m 2 5", "turn v m o 1 2"]
        self.assertEqual(places("k", doings), ["vessel v 3 of 8"])
        self.assertEqual(places("l", doings), ["vessel v 5 of 8"])

    # Poured to and fro, so a lot's part in a vessel has great terms while all there is is whole.
    def test_great_terms(self):
        doings = ["charge v m 13", "charge v n 4", "pour v w 5", "charge v n 7", "pour v w 6", "pour w v 4",
                  "charge w m 3", "pour v a 9"]
        k = {"v": 13, "w": 0, "a": 0}
        whole = {"v": 13, "w": 0, "a": 0}
        for word, vessel, other, amount in [doing.split() for doing in doings[1:]]:
            amount = int(amount)
            if word == "charge":
                k[vessel] += amount if other == "m" else 0
                whole[vessel] += amount
            else:
                share = Fraction(amount, whole[vessel])
                k[other] += k[vessel] * share
                k[vessel] -= k[vessel] * share
                whole[other] += amount
                whole[vessel] -= amount
        self.assertEqual(places("k", doings), [f"vessel {name} {k[name]} of {whole[name]}" for name in "wav"])
        self.assertTrue(all(amount.denominator > 1000 for amount in k.values()))

    def test_stuffs_of_great_terms_make_small_ones_together(self):
        doings = ["charge v m 1"] + ["turn v m n 1 1000"] * 6 + ["charge v n 1"]
        self.assertEqual(places("k", doings), ["vessel v 1 of 2"])
        doings = ["charge v m 7", "charge v n 4"] + ["turn v m n 1 999"] * 5 + ["pour v w 1"]
        self.assertEqual(places("k", doings), ["vessel w 7/11 of 1", "vessel v 70/11 of 10"])

    # In v the terms are made of 7 and in w of 11; in a they stand as unlike stuffs, and only what is
    # told of both has terms beyond 10^18.
    def test_together_terms_may_be_beyond_what_each_may_be(self):
        doings = ["charge p v m 3", "charge p v n 4", "charge p w m 5", "charge p w n 6"]
        doings += ["pour y v a 1", "charge y v n 1"] * 3 + ["ship s a"] + ["pour z w a 1", "charge z w n 1"] * 4
        doings += ["ship e a", "turn e w m o 1 1", "turn e w n q 1 1", "empty e v a", "empty e w a"]
        recipes = f"recipe r do p {'do y ' * 6} do s {'do z ' * 4} do e end"
        lines = recall_of("k", told(LOTS + ["1 batch b r", "2 till"]), recipes,
                          told(STUFFS + ["stuff q"] + VESSELS + doings))
        sevenths, elevenths = 3 * Fraction(6, 7) ** 18, 5 * Fraction(10, 11) ** 16
        self.assertEqual(lines, [f"vessel a {sevenths + elevenths} of 18", f"shipment 0 {3 - sevenths} of 18",
                                 f"shipment 1 {5 - elevenths} of 16"])
        self.assertGreater((sevenths + elevenths).numerator, 10 ** 31)

    def test_the_greatest_amounts(self):
        plant = told(["stuff m", "vessel v 1000000", "charge x v m 1000000"])
        day = told(["0 lot k m 1000000 100000", "100000 batch b r"])
        self.assertEqual(recall_of("k", day, "recipe r do x end", plant), ["vessel v 1000000 of 1000000"])


class Lots(unittest.TestCase):

    def test_a_lot_that_came_and_was_never_drawn_from(self):
        self.assertEqual(places("j", ["charge v m 5"]), [])
        self.assertEqual(asked("l"), [0])

    def test_a_lot_that_was_told_in_a_line_of_the_day(self):
        for k in range(len(LOTS)):
            self.assertEqual(asked(LOTS[k].split()[2], told(LOTS), "recipe r end", told(STUFFS)), [0])
        for name in ["m", "n", "x", "b", "b0", "v", "r", "lot", "till", "kl", "kk", "k1"]:
            self.assertEqual(asked(name, told(LOTS + ["1 batch b r"]), "recipe r do x end", plant_of([])), NOWHERE)

    def test_a_day_without_lots(self):
        for day in ["", "\n \n", "0 till", "0 batch l brew\n1 till"]:
            self.assertEqual(asked("l", day), NOWHERE)

    def test_the_last_of_forty_lots(self):
        lots = [f"0 lot l{k} m 1 9" for k in range(40)]
        doings = ["charge v m 40"]
        for name in ["l0", "l1", "l10", "l39"]:
            self.assertEqual(places(name, doings, lots), ["vessel v 1 of 40"])
        self.assertEqual(asked("l40", told(lots), "recipe r end", told(STUFFS)), NOWHERE)

    def test_a_lot_and_a_batch_of_one_name(self):
        day = "0 lot b malt 15 9\n0 batch b brew\n5 till\n"
        self.assertEqual(recall_of("b", day), ["vessel tun 10 of 10"])

    # A lot that came in the last line, and one that is over.
    def test_lots_at_the_day_s_end(self):
        day = "0 lot k malt 15 6\n0 batch b brew\n9 lot l malt 1 9"
        self.assertEqual(recall_of("k", day), ["vessel tun 10 of 10"])
        self.assertEqual(recall_of("l", day), [])


class Names(unittest.TestCase):

    def test_names_of_twelve_and_of_thirteen_bytes(self):
        long = "abcdefghijkl"
        day = f"0 lot {long} malt 15 9\n0 lot l malt 15 9\n0 batch b brew\n5 till\n"
        self.assertEqual(recall_of(long, day), ["vessel tun 10 of 10"])
        self.assertEqual(asked(long[:-1], day), NOWHERE)
        self.assertEqual(asked(long[:-1] + "m", day), NOWHERE)
        self.assertEqual(asked(long + "m", day), [-1])
        for fill in [" ", "\n", "l", "?", "\xff"]:
            self.assertEqual(asked("l" + fill * 11, day), NOWHERE)
            self.assertEqual(asked("l" + fill * 12, day), [-1])
            self.assertEqual(asked("l" + fill * 99, day), [-1])

    def test_an_empty_name(self):
        self.assertEqual(asked(""), NOWHERE)
        self.assertEqual(asked("", ""), NOWHERE)

    def test_names_that_are_no_names(self):
        for name in [" ", "\n", "l ", " l", "l\n", "\nl", "l l", "L", "1", "l?", "?", "\xe9", "l\xff", "\x00", "end",
                     "do", "recipe", "l/", "0", "-", "lot l"]:
            self.assertEqual(asked(name), NOWHERE, name)

    def test_every_byte_alone(self):
        for byte in range(256):
            self.assertEqual(asked([byte]), [0] if byte == ord("l") else NOWHERE, byte)

    def test_numbers_that_are_no_bytes(self):
        for other in [-1, 256, 1000, -9223372036854775808, 9223372036854775807, ord("l") + 256, ord("l") - 256]:
            for name in [[other], as_bytes("l") + [other], [other] + as_bytes("l"), as_bytes("abcdefghijk") + [other],
                         as_bytes("abcdefghijklm") + [other]]:
                self.assertEqual(asked(name), [-1])


class Refusals(unittest.TestCase):

    def test_no_bytes_go_before_all(self):
        for name in [[300], [-1], "abcdefghijklm", [0] * 100]:
            for day, recipes, plant in [("bad", BOOK, PLANT), ("bad", "", "bad"), ("", BOOK, "bad"), ("", BOOK, PLANT),
                                        (" " * 6001, BOOK, PLANT)]:
                self.assertEqual(asked(name, day, recipes, plant), [-1])
        for name in ["l", "other", "", [300]]:
            self.assertEqual(asked(name, [256]), [-1])
            self.assertEqual(asked(name, " " * 6001), [-1])
            self.assertEqual(asked(name, "bad", [-1]), [-1])
            self.assertEqual(asked(name, "bad", BOOK, " " * 6001), [-1])

    def test_the_works_and_the_day_go_before_the_lot(self):
        for name in ["l", "other", "", "?"]:
            self.assertEqual(asked(name, "bad", "recipe", "bad"), wrong_works(0, 8))
            self.assertEqual(asked(name, "bad", BOOK, "stuff a\nbad"), wrong_works(2, 1))
            self.assertEqual(asked(name, "bad", "recipe a either or end end", ""), wrong_works(0, 6))
            self.assertEqual(asked(name, "bad", "recipe a do x end", "unit u 1\nclaim a u 2"), wrong_works(0, 7))
            self.assertEqual(asked(name, "0 lot l malt 5 9\nbad"), wrong_day(2, 1))
            self.assertEqual(asked(name, "4 lot l malt 5 9\n3 till"), wrong_day(2, 4))
        self.assertEqual(asked("other"), NOWHERE)


if __name__ == "__main__":
    unittest.main()
