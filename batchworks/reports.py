"""What is told of a day that was carried out: where a lot is, and what there is at the day's end."""

from batchworks.amounts import amount_text
from batchworks.mixtures import amount_of_lot
from batchworks.words import line_of


# Each place that can hold something: the words that name it, its mixture and how much it holds.
def places_of(run):
    store = run.store
    places = []
    for vessel, mixture in enumerate(store.mixtures):
        places.append((["vessel", store.vessel_name(vessel)], mixture, store.wholes[vessel]))
    for number, shipment in enumerate(store.shipments):
        places.append((["shipment", number], shipment[0], shipment[1]))
    return places


def recall_lines(run, lot):
    lines = []
    for words, mixture, whole in places_of(run):
        amount = amount_of_lot(mixture, lot)
        if amount[0] > 0:
            lines.append(line_of(words + [amount_text(amount), "of", whole]))
    return lines


def holding_lines(run):
    store = run.store
    lots = [line_of(["lot", lot.name, left]) for lot, left in zip(store.lots, store.left)]
    vessels = [line_of(["vessel", store.vessel_name(k), whole]) for k, whole in enumerate(store.wholes)]
    units = [line_of(["unit", run.plant.name_of("unit", k), free]) for k, free in enumerate(run.free)]
    return lots + vessels + units


def under_way_line(plant, batch):
    steps = [plant.name_of("step", batch.moves[number].number) for number, over in batch.begun]
    return line_of(["batch", batch.name, "under", "way"] + steps)


def report_lines(run):
    under_way = [under_way_line(run.plant, batch) for batch in run.under_way]
    finished = [line_of(["batch", batch.name, "done", batch.deeds]) for batch in run.finished]
    return [line_of(["time", run.now])] + holding_lines(run) + under_way + finished
