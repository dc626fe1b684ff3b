"""The calls on a site, and how they are read and answered.

Each call is a function of the site and the call's whole numbers; it gives a list: the answer's numbers.
"""

from crewscrane.order import comes_behind, earliest_day, latest_day, whole_span
from crewscrane.plans import some_plan_holds
from crewscrane.works import Site, Work

NO_SUCH_WORK = -2
NOT_TOLD = -6
NOT_BEGUN = -11
TOLD_ALREADY = -17
OUT_OF_RANGE = -22
TOO_MANY = -28
NO_PLAN = -33
IN_A_RING = -61

MOST_WORKS = 6
MOST_DAYS = 5
MOST_PERSONS = 9
MOST_WAIT = 5
LAST_KIND = 2
LAST_DAY = 99


def is_missing(site, number):
    return number >= len(site.works)


# Lets a site become its changed twin, but refuses where no plan would hold.
def changed(site, trial, answer):
    if not some_plan_holds(trial):
        return [NO_PLAN]
    site.become(trial)
    return [answer]


def begin(site, a, b, c):
    if max(a, b, c) > MOST_PERSONS:
        return [OUT_OF_RANGE]
    site.begin_with([a, b, c])
    return [0]


def work(site, days, kind, persons, crane):
    if days < 1 or days > MOST_DAYS or kind > LAST_KIND or persons > MOST_PERSONS or crane > 1:
        return [OUT_OF_RANGE]
    if len(site.works) >= MOST_WORKS:
        return [TOO_MANY]
    trial = site.twin()
    trial.works.append(Work(days, kind, persons, crane))
    return changed(site, trial, len(site.works))


def after(site, a, b, wait):
    if is_missing(site, a) or is_missing(site, b):
        return [NO_SUCH_WORK]
    if wait > MOST_WAIT:
        return [OUT_OF_RANGE]
    if a in site.works[b].waits:
        return [TOLD_ALREADY]
    if a == b or comes_behind(site.works, a, b):
        return [IN_A_RING]
    trial = site.twin()
    trial.works[b].waits[a] = wait
    return changed(site, trial, 0)


def unafter(site, a, b):
    if is_missing(site, a) or is_missing(site, b):
        return [NO_SUCH_WORK]
    if a not in site.works[b].waits:
        return [NOT_TOLD]
    site.works[b].waits.pop(a)
    return [0]


def crew(site, kind, n):
    if kind > LAST_KIND or n > MOST_PERSONS:
        return [OUT_OF_RANGE]
    trial = site.twin()
    trial.crews[kind] = n
    return changed(site, trial, site.crews[kind])


def longer(site, a, n):
    if is_missing(site, a):
        return [NO_SUCH_WORK]
    days = site.works[a].days + n
    if n == 0 or days > MOST_DAYS:
        return [OUT_OF_RANGE]
    trial = site.twin()
    trial.works[a].days = days
    return changed(site, trial, days)


def fix(site, a, d):
    if is_missing(site, a):
        return [NO_SUCH_WORK]
    if d > LAST_DAY:
        return [OUT_OF_RANGE]
    trial = site.twin()
    trial.works[a].fixed = d
    return changed(site, trial, 0)


def unfix(site, a):
    if is_missing(site, a):
        return [NO_SUCH_WORK]
    if site.works[a].fixed is None:
        return [NOT_TOLD]
    site.works[a].fixed = None
    return [0]


def early(site):
    count = len(site.works)
    return [count] + [earliest_day(site.works, number) for number in range(count)]


def late(site, e):
    if e > LAST_DAY:
        return [OUT_OF_RANGE]
    if e < whole_span(site.works):
        return [NO_PLAN]
    count = len(site.works)
    return [count] + [latest_day(site.works, number, e) for number in range(count)]


BEGIN = 0
# The functions of the calls, by the calls' numbers.
CALLS = (begin, work, after, unafter, crew, longer, fix, unfix, early, late)
# How many whole numbers stand behind each call's own: the form of all twenty calls of the interface.
SIZES = (3, 4, 3, 2, 2, 2, 2, 1, 0, 1, 0, 0, 0, 0, 1, 1, 1, 1, 1, 0)


def answer_to(site, number, row):
    if number != BEGIN and not site.begun:
        return [NOT_BEGUN]
    call = CALLS[number]
    if len(row) == 0:
        return call(site)
    if len(row) == 1:
        return call(site, row[0])
    if len(row) == 2:
        return call(site, row[0], row[1])
    if len(row) == 3:
        return call(site, row[0], row[1], row[2])
    return call(site, row[0], row[1], row[2], row[3])


# The calls on one new site; for each, how many numbers are answered, then these.
def answers(calls):
    site = Site()
    told = []
    place = 0
    while place < len(calls):
        number = calls[place]
        place_behind = place + 1 + SIZES[number]
        answer = answer_to(site, number, calls[place + 1:place_behind])
        told.append(len(answer))
        told.extend(answer)
        place = place_behind
    return told
