"""Calls written by name, and their answers told apart."""

from crewscrane.sites import answers

HUGE = 4294967295


def begin(a, b, c):
    return [0, a, b, c]


def work(days, kind=0, persons=0, crane=0):
    return [1, days, kind, persons, crane]


def after(a, b, wait=0):
    return [2, a, b, wait]


def unafter(a, b):
    return [3, a, b]


def crew(kind, n):
    return [4, kind, n]


def longer(a, n):
    return [5, a, n]


def fix(a, d):
    return [6, a, d]


def unfix(a):
    return [7, a]


def early():
    return [8]


def late(e):
    return [9, e]


def line_of(calls):
    return [number for call in calls for number in call]


def rows_of(told):
    """Split what is given back into one list of numbers for each call."""
    rows = []
    place = 0
    while place < len(told):
        size = told[place]
        rows.append(told[place + 1:place + 1 + size])
        assert len(rows[-1]) == size >= 1
        place += 1 + size
    return rows


def ask(*calls):
    """Give the answer to each call, in order."""
    rows = rows_of(answers(line_of(calls)))
    assert len(rows) == len(calls)
    return rows


def last(*calls):
    return ask(*calls)[-1]
