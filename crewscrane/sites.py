"""The calls on a site, and how they are read and answered.

Each call is a function of the site and the call's whole numbers; it gives a list: the answer's numbers.
"""

from crewscrane.order import comes_behind, earliest_day, latest_day, whole_span
from crewscrane.plans import at_work, most_persons, plan_end
from crewscrane.search import best_plan, least_crew
from crewscrane.works import Site, Work

NO_SUCH_WORK = -2
NOT_TOLD = -6
NOT_BEGUN = -11
TOLD_ALREADY = -17
OUT_OF_RANGE = -22
TOO_MANY = -28
NO_PLAN = -33
IN_A_RING = -61

MOST_WORKS = 6
MOST_DAYS = 5
MOST_PERSONS = 9
MOST_WAIT = 5
LAST_KIND = 2
LAST_DAY = 99


def is_missing(site, number):
    return number >= len(site.works)


# Lets a site become its changed twin, but refuses where no plan would hold. All changes but begin come through here,
# so that the best plan is always that of the site as it is.
def changed(site, trial, answer):
    trial.plan = best_plan(trial)
    if trial.plan is None:
        return [NO_PLAN]
    site.become(trial)
    return [answer]


def begin(site, a, b, c):
    if max(a, b, c) > MOST_PERSONS:
        return [OUT_OF_RANGE]
    site.begin_with([a, b, c])
    return [0]


def work(site, days, kind, persons, crane):
    if days < 1 or days > MOST_DAYS or kind > LAST_KIND or persons > MOST_PERSONS or crane > 1:
        return [OUT_OF_RANGE]
    if len(site.works) >= MOST_WORKS:
        return [TOO_MANY]
    trial = site.twin()
    trial.works.append(Work(days, kind, persons, crane))
    return changed(site, trial, len(site.works))


def after(site, a, b, wait):
    if is_missing(site, a) or is_missing(site, b):
        return [NO_SUCH_WORK]
    if wait > MOST_WAIT:
        return [OUT_OF_RANGE]
    if a in site.works[b].waits:
        return [TOLD_ALREADY]
    if a == b or comes_behind(site.works, a, b):
        return [IN_A_RING]
    trial = site.twin()
    trial.works[b].waits[a] = wait
    return changed(site, trial, 0)


def unafter(site, a, b):
    if is_missing(site, a) or is_missing(site, b):
        return [NO_SUCH_WORK]
    if a not in site.works[b].waits:
        return [NOT_TOLD]
    trial = site.twin()
    trial.works[b].waits.pop(a)
    return changed(site, trial, 0)


def crew(site, kind, n):
    if kind > LAST_KIND or n > MOST_PERSONS:
        return [OUT_OF_RANGE]
    trial = site.twin()
    trial.crews[kind] = n
    return changed(site, trial, site.crews[kind])


def longer(site, a, n):
    if is_missing(site, a):
        return [NO_SUCH_WORK]
    days = site.works[a].days + n
    if n == 0 or days > MOST_DAYS:
        return [OUT_OF_RANGE]
    trial = site.twin()
    trial.works[a].days = days
    return changed(site, trial, days)


def fix(site, a, d):
    if is_missing(site, a):
        return [NO_SUCH_WORK]
    if d > LAST_DAY:
        return [OUT_OF_RANGE]
    trial = site.twin()
    trial.works[a].fixed = d
    return changed(site, trial, 0)


def unfix(site, a):
    if is_missing(site, a):
        return [NO_SUCH_WORK]
    if site.works[a].fixed is None:
        return [NOT_TOLD]
    trial = site.twin()
    trial.works[a].fixed = None
    return changed(site, trial, 0)


def early(site):
    count = len(site.works)
    return [count] + [earliest_day(site.works, number) for number in range(count)]


def late(site, e):
    if e > LAST_DAY:
        return [OUT_OF_RANGE]
    if e < whole_span(site.works):
        return [NO_PLAN]
    count = len(site.works)
    return [count] + [latest_day(site.works, number, e) for number in range(count)]


def slack(site):
    end = whole_span(site.works)
    count = len(site.works)
    return [count] + [latest_day(site.works, k, end) - earliest_day(site.works, k) for k in range(count)]


def span(site):
    return [whole_span(site.works)]


def shortest(site):
    return [plan_end(site.works, site.plan)]


def plan(site):
    return [len(site.plan)] + site.plan


def day(site, d):
    busy = at_work(site.works, site.plan, d)
    return [len(busy)] + busy


def use(site, kind):
    if kind > LAST_KIND:
        return [OUT_OF_RANGE]
    return [most_persons(site.works, site.plan, kind)]


def enough(site, kind):
    if kind > LAST_KIND:
        return [OUT_OF_RANGE]
    return [least_crew(site, kind)]


def behind(site, a):
    if is_missing(site, a):
        return [NO_SUCH_WORK]
    followers = [b for b in range(len(site.works)) if comes_behind(site.works, b, a)]
    return [len(followers)] + followers


def look(site, a):
    if is_missing(site, a):
        return [NO_SUCH_WORK]
    seen = site.works[a]
    fixed = 0 if seen.fixed is None else seen.fixed + 1
    told = [seen.days, seen.kind, seen.persons, seen.crane, fixed, len(seen.waits)]
    for which in seen.waits:
        told.extend([which, seen.waits[which]])
    return told


def state(site):
    return [len(site.works)] + site.crews


BEGIN = 0
# The functions of the calls, by the calls' numbers.
CALLS = (begin, work, after, unafter, crew, longer, fix, unfix, early, late,
         slack, span, shortest, plan, day, use, enough, behind, look, state)
# How many whole numbers stand behind each call's own.
SIZES = (3, 4, 3, 2, 2, 2, 2, 1, 0, 1, 0, 0, 0, 0, 1, 1, 1, 1, 1, 0)


def answer_to(site, number, row):
    if number != BEGIN and not site.begun:
        return [NOT_BEGUN]
    call = CALLS[number]
    if len(row) == 0:
        return call(site)
    if len(row) == 1:
        return call(site, row[0])
    if len(row) == 2:
        return call(site, row[0], row[1])
    if len(row) == 3:
        return call(site, row[0], row[1], row[2])
    return call(site, row[0], row[1], row[2], row[3])


# The calls on one new site; for each, how many numbers are answered, then these.
def answers(calls):
    site = Site()
    told = []
    place = 0
    while place < len(calls):
        number = calls[place]
        place_behind = place + 1 + SIZES[number]
        answer = answer_to(site, number, calls[place + 1:place_behind])
        told.append(len(answer))
        told.extend(answer)
        place = place_behind
    return told
