"""The calls: texts are handed in as bytes, and whole numbers are given back."""

from batchworks.day import read_day
from batchworks.plant import read_plant
from batchworks.refusals import Refusal
from batchworks.words import text_of


def works(r, w):
    try:
        plant = read_plant(text_of(r), text_of(w))
    except Refusal as e:
        return [e.number]
    told = plant.told
    return [len(told["recipe"]), len(told["stuff"]), len(told["vessel"]), len(told["unit"]), len(plant.doings)]


# All texts are looked at as bytes before any of them is read.
def check(r, w, d):
    try:
        recipes_text = text_of(r)
        works_text = text_of(w)
        day_text = text_of(d)
        day = read_day(read_plant(recipes_text, works_text), day_text)
    except Refusal as e:
        return [e.number]
    return [len(day.orders), len(day.lots), len(day.batches)]
