"""A day: deeds done one after the other, on a map that has no bridge at first."""

from holmway.chart import Chart
from holmway.errors import NoBridge, NoPlace, OnePlace, Stands
from holmway.ways import way


def answers(places, deeds):
    chart = Chart(places)
    return answers_on(chart, deeds)


def standing(places, deeds):
    chart = Chart(places)
    answers_on(chart, deeds)
    return chart.bridges


def answers_on(chart, deeds):
    found = []
    for deed in deeds:
        found.append(answer_on(chart, deed))
    return found


def answer_on(chart, deed):
    try:
        return do_deed(chart, deed)
    except NoPlace:
        return "no place"
    except OnePlace:
        return "one place"
    except Stands:
        return "stands"
    except NoBridge:
        return "no bridge"


def do_deed(chart, deed):
    if deed[0] == "build":
        chart.build(deed[1], deed[2])
        return "built"
    if deed[0] == "pull":
        chart.pull(deed[1], deed[2])
        return "pulled"
    return way(chart.places, chart.bridges, deed[1], deed[2])
