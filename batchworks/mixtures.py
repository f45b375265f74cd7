"""Mixtures: what a vessel holds, by lot and stuff.

A mixture is a dict from pairs of a lot and a stuff to exact amounts above 0. It is never changed:
what is done with it builds another, so that several may keep the same one.
"""

from batchworks.amounts import is_bounded, plus, rest_of, times


def add_to(mixture, key, amount):
    if amount[0] > 0:
        mixture[key] = plus(mixture.get(key, (0, 1)), amount)


def joined(mixture, other):
    both = {}
    for key, amount in mixture.items():
        add_to(both, key, amount)
    for key, amount in other.items():
        add_to(both, key, amount)
    return both


# From each lot and stuff the same share.
def share_of(mixture, share):
    part = {}
    for key, amount in mixture.items():
        add_to(part, key, times(amount, share))
    return part


# The share of the first stuff becomes the second, lot by lot.
def turned(mixture, first, second, share):
    behind = {}
    for key, amount in mixture.items():
        if key[1] == first:
            add_to(behind, key, times(amount, rest_of(share)))
            add_to(behind, (key[0], second), times(amount, share))
        else:
            add_to(behind, key, amount)
    return behind


# Of all stuffs together.
def amount_of_lot(mixture, lot):
    amount = (0, 1)
    for key, part in mixture.items():
        if key[0] == lot:
            amount = plus(amount, part)
    return amount


def is_mixture_bounded(mixture):
    return all([is_bounded(amount) for amount in mixture.values()])
