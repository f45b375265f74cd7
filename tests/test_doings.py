"""Doings: what is charged, poured, emptied, turned and shipped, and when that can't be done."""

import unittest

from helper import named, record_of, told

STUFFS = ["stuff m", "stuff n"]
VESSELS = ["vessel v 20", "vessel w 10"]


def done_by(doings, orders, recipes="recipe a do x end", vessels=VESSELS):
    """What is written behind the orders' own lines and those of begins."""
    lines = record_of(told(orders), recipes, told(STUFFS + vessels + doings))
    return [line for line in lines if line.split()[1] not in ("lot", "batch", "begin", "done", "till")]


class Charge(unittest.TestCase):

    def charge(self, amount, *lots, minute=5):
        orders = [f"0 lot {name} {told_of}" for name, told_of in lots]
        return done_by([f"charge x v m {amount}"], orders + [f"{minute} batch b a"])

    def test_of_one_lot(self):
        for amount in [1, 7, 8]:
            self.assertEqual(self.charge(amount, ("l", "m 8 9")), ["5 end b x", f"charge v l {amount}"])
        self.assertEqual(self.charge(9, ("l", "m 8 9")), [])

    def test_of_several_lots_as_much_as_each_has(self):
        lots = [("k", "m 3 9"), ("l", "m 4 9"), ("o", "m 5 9")]
        for amount, drawn in [(2, [2]), (3, [3]), (4, [3, 1]), (7, [3, 4]), (8, [3, 4, 1]), (12, [3, 4, 5])]:
            self.assertEqual(self.charge(amount, *lots), ["5 end b x"] + [f"charge v {name} {much}" for name, much in
                                                                         zip("klo", drawn)])
        self.assertEqual(self.charge(13, *lots), [])

    def test_lots_that_are_over_sooner_come_first(self):
        lots = [("k", "m 3 90"), ("l", "m 4 7"), ("o", "m 5 10"), ("p", "m 6 9")]
        self.assertEqual(self.charge(17, *lots),
                         ["5 end b x", "charge v l 4", "charge v p 6", "charge v o 5", "charge v k 2"])

    def test_of_lots_that_are_over_at_one_minute_the_earlier_told(self):
        lots = [("z", "m 3 9"), ("a", "m 4 9"), ("y", "m 1 8"), ("b", "m 5 9"), ("x", "m 1 8")]
        self.assertEqual(self.charge(14, *lots), ["5 end b x", "charge v y 1", "charge v x 1", "charge v z 3",
                                                  "charge v a 4", "charge v b 5"])

    def test_a_lot_may_be_used_to_its_last_minute(self):
        for last, right in [(0, False), (4, False), (5, True), (6, True), (100000, True)]:
            self.assertEqual(self.charge(2, ("l", f"m 2 {last}")), ["5 end b x", "charge v l 2"] if right else [])

    def test_lots_that_are_over_are_left_out(self):
        lots = [("k", "m 9 4"), ("l", "m 1 5"), ("o", "m 9 6")]
        self.assertEqual(self.charge(3, *lots), ["5 end b x", "charge v l 1", "charge v o 2"])
        self.assertEqual(self.charge(11, *lots), [])

    def test_other_stuffs_are_left_out(self):
        lots = [("k", "n 9 6"), ("l", "m 3 8")]
        self.assertEqual(self.charge(3, *lots), ["5 end b x", "charge v l 3"])
        self.assertEqual(self.charge(4, *lots), [])

    # The minute is that of the end, not that of the begin or of the lot's order.
    def test_the_minute_is_that_of_the_end(self):
        for last, right in [(6, False), (7, True)]:
            written = done_by(["charge x v m 2"], [f"0 lot l m 2 {last}", "2 batch b a", "9 till"],
                              "recipe a do x takes 5 to 5 end")
            self.assertEqual(written, ["7 end b x", "charge v l 2"] if right else [])

    def test_a_lot_that_comes_later(self):
        written = done_by(["charge x v m 5"], ["0 lot k m 3 9", "0 batch b a", "4 lot l m 1 9", "6 lot o m 1 9",
                                               "8 lot p m 9 9"])
        self.assertEqual(written, ["6 end b x", "charge v k 3", "charge v l 1", "charge v o 1"])

    def test_a_lot_that_came_is_over_before_the_rest_comes(self):
        written = done_by(["charge x v m 5"], ["0 lot k m 3 5", "0 batch b a", "6 lot l m 4 9", "7 lot o m 1 9"])
        self.assertEqual(written, ["7 end b x", "charge v l 4", "charge v o 1"])

    def test_lots_are_used_up(self):
        written = done_by(["charge x v m 4"], ["0 lot k m 5 9", "0 lot l m 5 20", "0 lot o m 3 15", "0 batch b a",
                                               "1 batch c a", "2 batch d a", "3 batch e a", "4 lot p m 3 4"])
        self.assertEqual(written, ["0 end b x", "charge v k 4", "1 end c x", "charge v k 1", "charge v o 3",
                                   "2 end d x", "charge v l 4", "4 end e x", "charge v p 3", "charge v l 1"])

    def test_no_more_than_the_vessel_may_hold(self):
        for vessel, right in [(7, False), (8, True), (9, True)]:
            written = done_by(["charge x v m 8"], ["0 lot l m 9 9", "0 batch b a"], vessels=[f"vessel v {vessel}"])
            self.assertEqual(written, ["0 end b x", "charge v l 8"] if right else [])

    def test_what_is_in_the_vessel_counts(self):
        orders = ["0 lot l m 99 9", "0 lot k n 99 9"] + [f"0 batch {name} a" for name in named("b", 4)]
        doings = ["charge x v m 4", "charge x v n 2"]
        for vessel, how_many in [(5, 0), (6, 1), (11, 1), (12, 2), (17, 2), (18, 3)]:
            written = done_by(doings, orders, vessels=[f"vessel v {vessel}"])
            expected = []
            for k in range(how_many):
                expected += [f"0 end b{k} x", "charge v l 4", "charge v k 2"]
            self.assertEqual(written, expected)

    def test_the_greatest_amounts(self):
        orders = ["0 lot l m 1000000 100000", "0 lot k m 1 100000", "100000 batch b a"]
        self.assertEqual(done_by(["charge x v m 1000000"], orders, vessels=["vessel v 1000000"]),
                         ["100000 end b x", "charge v l 1000000"])
        self.assertEqual(done_by(["charge x v m 1000000", "charge x v m 1"], orders, vessels=["vessel v 1000000"]), [])


class Pour(unittest.TestCase):

    LOTS = ["0 lot k m 6 99", "0 lot l n 3 99"]

    def test_what_is_poured(self):
        for amount in [1, 8, 9]:
            written = done_by(["charge x v m 6", "charge x v n 3", f"pour x v w {amount}"], self.LOTS + ["1 batch b a"])
            self.assertEqual(written, ["1 end b x", "charge v k 6", "charge v l 3", f"pour v w {amount}"])

    def test_no_more_than_there_is(self):
        for amount in [10, 1000000]:
            doings = ["charge x v m 6", "charge x v n 3", f"pour x v w {amount}"]
            self.assertEqual(done_by(doings, self.LOTS + ["1 batch b a"]), [])
        self.assertEqual(done_by(["pour x v w 1"], ["0 batch b a"]), [])

    def test_no_more_than_the_second_may_hold(self):
        for vessel, right in [(4, False), (5, True), (6, True)]:
            written = done_by(["charge x v m 6", "pour x v w 5"], self.LOTS + ["1 batch b a"],
                              vessels=["vessel v 6", f"vessel w {vessel}"])
            self.assertEqual(written, ["1 end b x", "charge v k 6", "pour v w 5"] if right else [])

    def test_what_is_in_the_second_counts(self):
        for vessel, right in [(7, False), (8, True)]:
            written = done_by(["charge x v m 6", "charge x w n 3", "pour x v w 5"], self.LOTS + ["1 batch b a"],
                              vessels=["vessel v 6", f"vessel w {vessel}"])
            self.assertEqual(len(written), 4 if right else 0)

    def test_what_is_left_and_what_has_come(self):
        doings = ["charge x v m 6", "pour x v w 4", "pour x w v 1", "pour x v w 3", "pour x w v 6"]
        self.assertEqual(done_by(doings, self.LOTS + ["1 batch b a"])[2:], [line.replace(" x ", " ") for line in
                                                                           doings[1:]])
        self.assertEqual(done_by(doings[:-1] + ["pour x w v 7"], self.LOTS + ["1 batch b a"]), [])
        self.assertEqual(done_by(doings[:3] + ["pour x v w 4"], self.LOTS + ["1 batch b a"]), [])

    def test_a_vessel_has_room_for_what_was_poured_out(self):
        doings = ["charge x v m 6", "pour x v w 4", "charge x v n 3"]
        for vessel, right in [(4, False), (5, False), (6, True)]:
            written = done_by(doings, self.LOTS + ["1 batch b a"], vessels=[f"vessel v {vessel}", "vessel w 9"])
            self.assertEqual(len(written), 4 if right else 0)


class Empty(unittest.TestCase):

    LOTS = ["0 lot k m 6 99", "0 lot l n 3 99"]

    def test_all_goes(self):
        doings = ["charge x v m 6", "charge x w n 3", "empty x v w", "pour x w v 9"]
        self.assertEqual(done_by(doings, self.LOTS + ["1 batch b a"])[3:], ["empty v w", "pour w v 9"])
        self.assertEqual(done_by(doings[:3] + ["pour x v w 1"], self.LOTS + ["1 batch b a"]), [])
        self.assertEqual(done_by(doings[:3] + ["pour x w v 10"], self.LOTS + ["1 batch b a"]), [])

    def test_nothing_goes_if_there_is_nothing(self):
        self.assertEqual(done_by(["empty x v w", "empty x w v"], ["1 batch b a"]),
                         ["1 end b x", "empty v w", "empty w v"])
        doings = ["charge x w m 6", "empty x v w", "pour x w v 6"]
        self.assertEqual(done_by(doings, self.LOTS + ["1 batch b a"])[2:], ["empty v w", "pour w v 6"])

    def test_no_more_than_the_second_may_hold(self):
        for vessel, right in [(8, False), (9, True)]:
            written = done_by(["charge x v m 6", "charge x w n 3", "empty x v w"], self.LOTS + ["1 batch b a"],
                              vessels=["vessel v 6", f"vessel w {vessel}"])
            self.assertEqual(len(written), 4 if right else 0)

    def test_a_full_vessel_takes_nothing_of_an_empty_one(self):
        written = done_by(["charge x w m 6", "empty x v w"], self.LOTS + ["1 batch b a"],
                          vessels=["vessel v 6", "vessel w 6"])
        self.assertEqual(written, ["1 end b x", "charge w k 6", "empty v w"])


class Turn(unittest.TestCase):

    def test_what_is_written(self):
        for share in ["1 1", "1 2", "2 4", "999 1000", "1000 1000"]:
            written = done_by(["charge x v m 6", f"turn x v m n {share}"], ["0 lot k m 6 9", "1 batch b a"])
            self.assertEqual(written, ["1 end b x", "charge v k 6", f"turn v m n {share}"])

    def test_a_vessel_without_the_stuff(self):
        self.assertEqual(done_by(["turn x v m n 1 3"], ["1 batch b a"]), ["1 end b x", "turn v m n 1 3"])
        self.assertEqual(done_by(["charge x v n 6", "turn x v m n 1 3"], ["0 lot k n 6 9", "1 batch b a"])[2:],
                         ["turn v m n 1 3"])

    # A turned stuff is in the vessel, not in the lot.
    def test_there_is_as_much_as_before(self):
        doings = ["charge x v m 6", "turn x v m n 1 3", "pour x v w 6"]
        self.assertEqual(done_by(doings, ["0 lot k m 6 9", "1 batch b a"])[3:], ["pour v w 6"])
        self.assertEqual(done_by(doings[:2] + ["pour x v w 7"], ["0 lot k m 6 9", "1 batch b a"]), [])
        self.assertEqual(done_by(doings[:2] + ["charge x v n 1"], ["0 lot k m 9 9", "1 batch b a"]), [])


class Ship(unittest.TestCase):

    def test_shipments_are_numbered(self):
        doings = ["charge x v m 2", "ship x v", "charge x w m 1", "ship x w"]
        written = done_by(doings, ["0 lot k m 6 9", "1 batch b a", "2 batch c a"])
        self.assertEqual(written, ["1 end b x", "charge v k 2", "ship v 0", "charge w k 1", "ship w 1", "2 end c x",
                                   "charge v k 2", "ship v 2", "charge w k 1", "ship w 3"])

    def test_of_an_empty_vessel_nothing_is_written(self):
        self.assertEqual(done_by(["ship x v", "ship x w"], ["1 batch b a"]), ["1 end b x"])
        doings = ["charge x w m 2", "ship x v", "ship x w", "ship x w"]
        self.assertEqual(done_by(doings, ["0 lot k m 6 9", "1 batch b a", "1 batch c a"])[2:],
                         ["ship w 0", "1 end c x", "charge w k 2", "ship w 1"])

    def test_all_goes_away(self):
        doings = ["charge x v m 2", "ship x v", "pour x v w 1"]
        self.assertEqual(done_by(doings, ["0 lot k m 6 9", "1 batch b a"]), [])
        doings = ["charge x v m 20", "ship x v", "charge x v m 20"]
        self.assertEqual(len(done_by(doings, ["0 lot k m 40 9", "1 batch b a"])), 4)


class Together(unittest.TestCase):

    def test_a_step_does_its_doings_in_the_order_of_lines(self):
        doings = ["charge y v m 1", "charge x v m 2", "pour x v w 1", "charge y v m 3", "turn x w m n 1 2",
                  "empty x w v", "ship y w", "ship x v"]
        written = done_by(doings, ["0 lot k m 20 9", "1 batch b a", "2 batch c a"], "recipe a do x do y end")
        self.assertEqual(written[:13],
                         ["1 end b x", "charge v k 2", "pour v w 1", "turn w m n 1 2", "empty w v", "ship v 0",
                          "1 end b y", "charge v k 1", "charge v k 3", "2 end c x", "charge v k 2", "pour v w 1",
                          "turn w m n 1 2"])

    # Of the charges before the one that can't be done nothing is left: all is there when it can.
    def test_if_one_can_not_be_done_none_is(self):
        first = ["charge x v m 5", "turn x v m n 1 2", "pour x v w 2", "empty x w v", "ship x v", "charge x v m 3"]
        orders = ["0 lot k m 12 20", "0 batch b a", "1 batch c a", "5 lot o n 1 99"]
        for last, at_once in [("charge x v n 1", False), ("charge x v m 1", True)]:
            written = done_by(first + [last], orders, "recipe a do x do y end")
            self.assertEqual(written[0], "0 end b x" if at_once else "5 end b x")
            self.assertEqual(written[1:7], ["charge v k 5", "turn v m n 1 2", "pour v w 2", "empty w v", "ship v 0",
                                            "charge v k 3"])
            self.assertEqual(written[7], "charge v k 1" if at_once else "charge v o 1")

    def test_each_doing_behind_one_that_must_not_stay(self):
        orders = ["0 lot k m 6 20", "0 batch b a", "1 batch c d"]
        recipes = "recipe a do x end recipe d do y end"
        for doing in ["charge x v m 4", "charge x w m 3", "turn x v m n 1 2", "empty x v w", "ship x v"]:
            doings = [doing, "charge x v n 1", "charge y v m 6", "pour y v w 6", "charge y v m 1"]
            self.assertEqual(done_by(doings[:-1], orders, recipes), ["1 end c y", "charge v k 6", "pour v w 6"])
            self.assertEqual(done_by(doings, orders, recipes), [])

    def test_a_shipment_that_did_not_go_has_no_number(self):
        doings = ["charge x v m 1", "ship x v", "charge x v n 1", "charge y v m 1", "ship y v"]
        orders = ["0 lot k m 9 20", "0 batch b a", "1 batch c d", "2 lot o n 1 9"]
        written = done_by(doings, orders, "recipe a do x end recipe d do y end")
        self.assertEqual(written, ["1 end c y", "charge v k 1", "ship v 0", "2 end b x", "charge v k 1", "ship v 1",
                                   "charge v o 1"])

    # While x waits its units are held and what is behind it doesn't begin.
    def test_units_are_given_back_only_when_the_doings_are_done(self):
        lines = record_of(told(["0 batch b a", "3 lot l m 1 9"]), "recipe a do x do y end",
                          told(["stuff m", "vessel v 9", "unit u 1", "claim a u 1", "take x u 1", "give x u 1",
                                "take y u 1", "give y u 1", "charge x v m 1"]))
        self.assertEqual(lines, ["0 batch b a", "0 begin b x", "order b", "3 lot l m 1 9", "3 end b x", "charge v l 1",
                                 "3 begin b y", "order b", "3 end b y", "3 done b"])

    # Two batches do the same step at once; what the first takes the second lacks.
    def test_two_batches_want_the_same(self):
        written = done_by(["charge x v m 4"], ["0 batch b a", "0 batch c a", "1 lot k m 7 9", "2 lot l m 1 9"])
        self.assertEqual(written, ["1 end b x", "charge v k 4", "2 end c x", "charge v k 3", "charge v l 1"])

    # The step is stuck by a full vessel, and goes on when another batch empties it.
    def test_another_batch_makes_room(self):
        doings = ["charge x v m 20", "ship y v"]
        orders = ["0 lot k m 60 99", "0 batch b a", "1 batch c a", "2 batch d e", "9 till"]
        written = done_by(doings, orders, "recipe a do x end recipe e do y takes 3 to 3 end")
        self.assertEqual(written, ["0 end b x", "charge v k 20", "5 end d y", "ship v 0", "5 end c x", "charge v k 20"])

    def test_the_same_step_within_one_batch(self):
        written = done_by(["charge x v m 2", "pour x v w 1"], ["0 lot k m 9 9", "0 batch b a"],
                          "recipe a both do x and do x end do x end")
        self.assertEqual(written, ["0 end b x", "charge v k 2", "pour v w 1"] * 3)


if __name__ == "__main__":
    unittest.main()
