"""The spots of a recipe: marked places, begun moves and held units.

A spot is a tuple of three tuples: the marked places and the begun moves, both in rising order,
and how many of each unit are held.
"""

from batchworks.nets import net_of

MOST_SPOTS = 600


def can_be(move, marked):
    return all([place in marked for place in move.before])


def added(held, amounts):
    return tuple([have + more for have, more in zip(held, amounts)])


def lessened(held, amounts):
    return tuple([have - less for have, less in zip(held, amounts)])


# The spot behind a move that is no step, or behind the begin of a step's.
def moved(spot, number, move, plant):
    marked = [place for place in spot[0] if place not in move.before]
    if move.kind != "step":
        return (tuple(sorted(marked + list(move.behind))), spot[1], spot[2])
    begun = sorted(list(spot[1]) + [number])
    return (tuple(marked), tuple(begun), added(spot[2], plant.amounts("take", move.number)))


def ended(spot, number, move, plant):
    marked = sorted(list(spot[0]) + list(move.behind))
    begun = [other for other in spot[1] if other != number]
    return (tuple(marked), tuple(begun), lessened(spot[2], plant.amounts("give", move.number)))


def spots_behind(spot, moves, plant):
    found = []
    for number, move in enumerate(moves):
        if can_be(move, spot[0]):
            found.append(moved(spot, number, move, plant))
        if number in spot[1]:
            found.append(ended(spot, number, move, plant))
    return found


# All spots that can be come to; of more than the most there are some beyond the most. Where an
# end would give more than is held, less than nothing is held in the spot behind it.
def spots_of(plant, recipe):
    moves = net_of(plant.book, recipe)
    first = ((0,), (), plant.nothing())
    found = [first]
    seen = {first: True}
    place = 0
    while place < len(found) and len(found) <= MOST_SPOTS:
        for spot in spots_behind(found[place], moves, plant):
            if spot not in seen:
                seen[spot] = True
                found.append(spot)
        place += 1
    return found


def is_spot_right(spot, claimed):
    for have, most in zip(spot[2], claimed):
        if have < 0 or have > most:
            return False
    return spot[0] != (1,) or len(spot[1]) > 0 or sum(spot[2]) == 0


def is_recipe_right(plant, recipe):
    claimed = plant.amounts("claim", recipe)
    for most, there_are in zip(claimed, plant.sizes["unit"]):
        if most > there_are:
            return False
    found = spots_of(plant, recipe)
    return len(found) <= MOST_SPOTS and all([is_spot_right(spot, claimed) for spot in found])


# How many spots can be come to, and for each unit the most that's held in one.
def spot_numbers(plant, recipe):
    found = spots_of(plant, recipe)
    most_held = [max([spot[2][unit] for spot in found]) for unit in range(len(plant.sizes["unit"]))]
    return [len(found)] + most_held
