"""The nets of recipes: places and moves by number, as the document tells them."""

import unittest

from batchworks.nets import net_of
from batchworks.plant import read_plant
from batchworks.recipes import read_book
from batchworks.spots import spots_of


def net(text):
    book = read_book(text)
    return [(move.kind, move.number, move.before, move.behind)
            for move in net_of(book, len(book.recipes) - 1)]


def spots(text, plant=""):
    return len(spots_of(read_plant(text, plant), 0))


class Nets(unittest.TestCase):

    def test_an_empty_body_and_a_step(self):
        self.assertEqual(net("recipe a end"), [("silent", 0, (0,), (1,))])
        self.assertEqual(net("recipe a do x end"), [("step", 0, (0,), (1,))])

    def test_items_hang_to_the_left(self):
        self.assertEqual(net("recipe a do x do y do z end"),
                         [("step", 0, (0,), (3,)), ("step", 1, (3,), (2,)), ("step", 2, (2,), (1,))])

    def test_if(self):
        self.assertEqual(net("recipe a if c then do x do y else end end"),
                         [("yes", 0, (0,), (2,)), ("no", 0, (0,), (3,)), ("step", 0, (2,), (4,)),
                          ("step", 1, (4,), (1,)), ("silent", 0, (3,), (1,))])

    def test_both(self):
        self.assertEqual(net("recipe a both do x do y and do z do x end end"),
                         [("silent", 0, (0,), (2, 3)), ("step", 0, (2,), (6,)), ("step", 1, (6,), (4,)),
                          ("step", 2, (3,), (7,)), ("step", 0, (7,), (5,)), ("silent", 0, (4, 5), (1,))])

    def test_both_of_three(self):
        self.assertEqual(net("recipe a both do x and do y and do z end end"),
                         [("silent", 0, (0,), (2, 3)), ("silent", 0, (2,), (6, 7)), ("step", 0, (6,), (8,)),
                          ("step", 1, (7,), (9,)), ("silent", 0, (8, 9), (4,)), ("step", 2, (3,), (5,)),
                          ("silent", 0, (4, 5), (1,))])
        self.assertEqual(net("recipe a both do x and do y and do z end end"),
                         net("recipe a both both do x and do y end and do z end end"))

    def test_again(self):
        self.assertEqual(net("recipe a again do x until c end end"),
                         [("silent", 0, (0,), (2,)), ("step", 0, (2,), (3,)), ("no", 0, (3,), (2,)),
                          ("yes", 0, (3,), (1,))])
        self.assertEqual(net("recipe a again do x do y until c end end"),
                         [("silent", 0, (0,), (2,)), ("step", 0, (2,), (4,)), ("step", 1, (4,), (3,)),
                          ("no", 0, (3,), (2,)), ("yes", 0, (3,), (1,))])

    def test_the_next_number_is_where_the_one_before_left_off(self):
        self.assertEqual(net("recipe a if c then do x do y else do x do z end do w end"),
                         [("yes", 0, (0,), (3,)), ("no", 0, (0,), (4,)), ("step", 0, (3,), (5,)),
                          ("step", 1, (5,), (2,)), ("step", 0, (4,), (6,)), ("step", 2, (6,), (2,)),
                          ("step", 3, (2,), (1,))])

    def test_a_used_body_is_one_item(self):
        self.assertEqual(net("recipe b do x do y end recipe a do z use b do z end"),
                         [("step", 2, (0,), (3,)), ("step", 0, (3,), (4,)), ("step", 1, (4,), (2,)),
                          ("step", 2, (2,), (1,))])
        self.assertEqual(net("recipe b end recipe a use b do z end"),
                         [("silent", 0, (0,), (2,)), ("step", 0, (2,), (1,))])

    def test_conditions_are_numbered_as_their_names_come(self):
        self.assertEqual([move[:2] for move in net("recipe a again if d then else end until c end end")],
                         [("silent", 0), ("yes", 0), ("no", 0), ("silent", 0), ("silent", 0), ("no", 1), ("yes", 1)])


class Spots(unittest.TestCase):

    def test_how_many_spots_there_are(self):
        for body, how_many in [("", 2), ("do x", 3), ("do x do y", 5), ("if c then else end", 4),
                               ("if c then do x else do y end", 6), ("again until c end", 4),
                               ("again do x until c end", 5), ("both and end", 6), ("both do x and do y end", 11),
                               ("both do x and do y and do z end", 35)]:
            self.assertEqual(spots(f"recipe a {body} end"), how_many, body)

    def test_what_a_spot_is(self):
        plant = read_plant("recipe a do x do y end",
                           "unit u 4\nunit v 4\nclaim a u 3\nclaim a v 1\ntake x u 2\ntake x v 1\ngive x v 1\n"
                           "take y u 1\ngive y u 3\n")
        self.assertEqual(spots_of(plant, 0),
                         [((0,), (), (0, 0)), ((), (0,), (2, 1)), ((2,), (), (2, 0)), ((), (1,), (3, 0)),
                          ((1,), (), (0, 0))])


if __name__ == "__main__":
    unittest.main()
