"""The calls: texts are handed in as bytes, and whole numbers are given back."""

from batchworks.carrying import carried_out
from batchworks.day import read_day
from batchworks.judging import judgement
from batchworks.plant import read_plant
from batchworks.refusals import NoLot, Refusal
from batchworks.reports import recall_lines, report_lines
from batchworks.showing import recipes_lines, works_lines
from batchworks.spots import spot_numbers
from batchworks.words import MOST_BYTES, MOST_RECORD_BYTES, MOST_SIGNS, answer_of, text_of


# All texts are looked at as bytes before any of them is read.
def plant_of(r, w):
    recipes_text = text_of(r, MOST_BYTES)
    works_text = text_of(w, MOST_BYTES)
    return read_plant(recipes_text, works_text)


def day_of(r, w, d):
    day_text = text_of(d, MOST_BYTES)
    return read_day(plant_of(r, w), day_text)


def lot_of(day, name):
    if name not in day.lots:
        raise NoLot()
    return day.lots[name]


def works(r, w):
    try:
        plant = plant_of(r, w)
    except Refusal as e:
        return [e.number]
    told = plant.told
    return [len(told["recipe"]), len(told["stuff"]), len(told["vessel"]), len(told["unit"]), len(plant.doings)]


def check(r, w, d):
    try:
        day = day_of(r, w, d)
    except Refusal as e:
        return [e.number]
    return [len(day.orders), len(day.lots), len(day.batches)]


def record(r, w, d):
    try:
        day = day_of(r, w, d)
    except Refusal as e:
        return [e.number]
    return answer_of(carried_out(day).lines)


def judge(r, w, d, x):
    try:
        text = text_of(x, MOST_RECORD_BYTES)
        day = day_of(r, w, d)
    except Refusal as e:
        return [e.number]
    return judgement(day, text)


def recall(r, w, d, l):
    try:
        name = text_of(l, MOST_SIGNS)
        day = day_of(r, w, d)
        lot = lot_of(day, name)
    except Refusal as e:
        return [e.number]
    return answer_of(recall_lines(carried_out(day), lot))


def report(r, w, d):
    try:
        day = day_of(r, w, d)
    except Refusal as e:
        return [e.number]
    return answer_of(report_lines(carried_out(day)))


def claims(r, w):
    try:
        plant = plant_of(r, w)
    except Refusal as e:
        return [e.number]
    numbers = [len(plant.book.recipes)]
    for recipe in range(len(plant.book.recipes)):
        numbers.extend(spot_numbers(plant, recipe))
    return numbers


def shown(r, w):
    try:
        plant = plant_of(r, w)
    except Refusal as e:
        return [e.number]
    return answer_of(recipes_lines(plant)) + answer_of(works_lines(plant))
