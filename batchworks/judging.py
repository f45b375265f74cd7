"""Records that are judged: the day is carried out by their orders."""

from batchworks.carrying import Run, WrongOrder


# All lines of a record, for lines without words are lines here too.
def record_lines(text):
    lines = text.split("\n")
    if lines[-1] == "":
        lines.pop()
    return lines


def orders_of(lines):
    words_of_lines = [line.split() for line in lines]
    return [words[1:] for words in words_of_lines if words[:1] == ["order"]]


def how_many_alike(lines, others):
    alike = 0
    while alike < min(len(lines), len(others)) and lines[alike] == others[alike]:
        alike += 1
    return alike


# One number if the record is good; else 0 and how many lines are alike.
def judgement(day, text):
    lines = record_lines(text)
    run = Run(day, orders_of(lines))
    are_right = True
    try:
        run.carry_out()
    except WrongOrder:
        are_right = False
    if are_right and run.lines == lines:
        return [1]
    return [0, how_many_alike(lines, run.lines)]
