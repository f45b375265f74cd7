"""Grants: when units can be given so that all batches under way can still be ended.

A holder is a batch's name, what it may claim of each unit and what it holds of each.
"""

from batchworks.spots import added


def is_within(amounts, free):
    return all([amount <= there_are for amount, there_are in zip(amounts, free)])


def can_be_ended(holder, free):
    return is_within(holder[1], added(free, holder[2]))


# The first holder that can be ended, again and again. Whoever ends sets units free and takes none,
# so where this comes to its end early no other order comes further.
def order_told(holders, free):
    told = []
    waiting = list(holders)
    can_end = [holder for holder in waiting if can_be_ended(holder, free)]
    while len(can_end) > 0:
        first = can_end[0]
        told.append(first[0])
        free = added(free, first[2])
        waiting = [holder for holder in waiting if holder != first]
        can_end = [holder for holder in waiting if can_be_ended(holder, free)]
    return told


def is_order_right(names, holders, free):
    waiting = {}
    for holder in holders:
        waiting[holder[0]] = holder
    for name in names:
        if name not in waiting or not can_be_ended(waiting[name], free):
            return False
        free = added(free, waiting[name][2])
        waiting.pop(name)
    return len(waiting) == 0
