"""Recipes and works shown in one form, whatever form they were told in."""

from batchworks.words import line_of


def step_words(plant, step):
    least, greatest = plant.book.times[step]
    return ["do", plant.name_of("step", step), "takes", least, "to", greatest]


# A recipe has few things, so its parts may be gone through by calls within one another.
def body_words(plant, body):
    words = []
    for part in body:
        words.extend(part_words(plant, part))
    return words


def part_words(plant, part):
    if part.word == "do":
        return step_words(plant, part.number)
    if part.word == "use":
        return ["use", plant.name_of("recipe", part.number)]
    bodies = [body_words(plant, body) for body in part.bodies]
    if part.word == "both":
        return both_words(bodies)
    condition = plant.name_of("condition", part.number)
    if part.word == "if":
        return ["if", condition, "then"] + bodies[0] + ["else"] + bodies[1] + ["end"]
    return ["again"] + bodies[0] + ["until", condition, "end"]


# Three and more bodies are both of all but the last, and the last.
def both_words(bodies):
    words = bodies[0]
    for body in bodies[1:]:
        words = ["both"] + words + ["and"] + body + ["end"]
    return words


def recipe_line(plant, recipe):
    body = plant.book.parts[recipe].bodies[0]
    return line_of(["recipe", plant.name_of("recipe", recipe)] + body_words(plant, body) + ["end"])


def recipes_lines(plant):
    return [recipe_line(plant, recipe) for recipe in range(len(plant.book.recipes))]


def works_lines(plant):
    shown_lines = []
    for lines in plant.lines.values():
        shown_lines.extend(lines)
    return shown_lines
