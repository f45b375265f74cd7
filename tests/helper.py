"""What the tests share: texts as bytes, and calls that watch what they are handed."""

from batchworks.works import check, claims, judge, recall, record, report, shown, works

# A book that says nothing but what every test needs: four steps, a condition, two recipes.
BOOK = """recipe brew
  do heat takes 5 to 9 do cool
  again do stir until smooth end
end
recipe rinse do flush end
"""

# A works' text that suits it, of nine lines.
PLANT = """stuff malt
stuff wort
vessel tun 500
vessel vat 1000
unit worker 3
claim brew worker 2
take heat worker 2
give heat worker 2
charge heat tun malt 10
"""


def as_bytes(text):
    return list(text) if isinstance(text, list) else list(text.encode("latin-1"))


def answer(function, *texts):
    handed = [as_bytes(text) for text in texts]
    before = [list(text) for text in handed]
    first = function(*handed)
    second = function(*handed)
    assert handed == before, "what was handed in is changed"
    assert first == second, "a second call answers otherwise"
    assert isinstance(first, list) and all([type(number) is int for number in first])
    return first


def works_of(recipes=BOOK, plant=PLANT):
    return answer(works, recipes, plant)


def check_of(day, recipes=BOOK, plant=PLANT):
    return answer(check, recipes, plant, day)


def text_in(answered):
    """The text that is answered: its length, then its bytes."""
    assert answered[0] == len(answered) - 1, "a text's length is another"
    return bytes(answered[1:]).decode("ascii")


def lines_in(answered):
    """The lines of the text that is answered."""
    text = text_in(answered)
    assert text == "" or text.endswith("\n")
    return text.split("\n")[:-1]


def record_of(day, recipes=BOOK, plant=PLANT):
    """The lines of the day's record, of a day that isn't refused."""
    return lines_in(answer(record, recipes, plant, day))


def judge_of(judged, day, recipes=BOOK, plant=PLANT):
    return answer(judge, recipes, plant, day, judged)


def recall_of(lot, day, recipes=BOOK, plant=PLANT):
    """The lines of the recall, of a day that isn't refused and has this lot."""
    return lines_in(answer(recall, recipes, plant, day, lot))


def report_of(day, recipes=BOOK, plant=PLANT):
    """The lines of the report, of a day that isn't refused."""
    return lines_in(answer(report, recipes, plant, day))


def claims_of(recipes=BOOK, plant=PLANT):
    return answer(claims, recipes, plant)


def shown_of(recipes=BOOK, plant=PLANT):
    """The lines of the two texts, of recipes and a works that aren't refused."""
    answered = answer(shown, recipes, plant)
    length = answered[0] + 1
    return lines_in(answered[:length]), lines_in(answered[length:])


def wrong_works(line, kind):
    return [-1000 - (100 * line + kind)]


def wrong_day(line, kind):
    return [-500000 - (100 * line + kind)]


def named(prefix, how_many):
    return [f"{prefix}{k}" for k in range(how_many)]


def steps(how_many, prefix="s"):
    return " ".join([f"do {name}" for name in named(prefix, how_many)])


def told(lines):
    return "".join([line + "\n" for line in lines])
