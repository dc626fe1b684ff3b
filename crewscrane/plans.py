"""Plans with crews, a crane and fixed works.

A plan is a list, starts, with the day on which each work begins; None stands for a work that is not placed yet.
"""


def some_plan_holds(site):
    starts = [work.fixed for work in site.works]
    for number in range(len(starts)):
        if starts[number] is not None and not holds_at(site, starts, number):
            return False
    return can_be_filled(site, starts)


# To place each work as early as it goes, in every order, is enough: if any plan holds, so does one in which no work
# that isn't fixed can be moved forward by itself, and the order in which its works begin leads to just that plan.
def can_be_filled(site, starts):
    if None not in starts:
        return True
    for number in range(len(starts)):
        if starts[number] is None and is_ready(site.works, starts, number):
            more = placed(site, starts, number)
            # Works still to come only take room: what has no day now has none behind them either.
            if more is None:
                return False
            if can_be_filled(site, more):
                return True
    return False


def is_ready(works, starts, number):
    return all([starts[a] is not None for a in works[number].waits])


# The plan with one work more, as early as it goes; None if it goes on no day.
def placed(site, starts, number):
    for day in days_to_try(site.works, starts, number):
        more = list(starts)
        more[number] = day
        if holds_at(site, more, number):
            return more
    return None


# The earliest day that a work goes on is one of these: if it isn't the first one behind all that the work comes after,
# something was in the way on the day before, and ends here.
def days_to_try(works, starts, number):
    first = day_behind(works, starts, number)
    ends = [starts[k] + works[k].days for k in range(len(works)) if starts[k] is not None]
    return sorted([first] + [end for end in ends if end > first])


# The first day that is late enough behind all placed works that a work comes after.
def day_behind(works, starts, number):
    waits = works[number].waits
    return max([starts[a] + works[a].days + waits[a] for a in waits if starts[a] is not None], default=0)


# Whether a plan holds on the days of one placed work, and in the order of all.
def holds_at(site, starts, number):
    first = starts[number]
    if not all([is_late_enough(site.works, starts, k) for k in range(len(starts))]):
        return False
    return all([is_enough_on(site, starts, day) for day in range(first, first + site.works[number].days)])


def is_late_enough(works, starts, number):
    return starts[number] is None or starts[number] >= day_behind(works, starts, number)


def is_enough_on(site, starts, day):
    busy = [site.works[number] for number in at_work(site.works, starts, day)]
    if sum([work.crane for work in busy]) > 1:
        return False
    return all([persons_of(busy, kind) <= site.crews[kind] for kind in range(len(site.crews))])


# The numbers of the placed works that something is done at on a day, rising.
def at_work(works, starts, day):
    begun = [k for k in range(len(works)) if starts[k] is not None and starts[k] <= day]
    return [k for k in begun if day < starts[k] + works[k].days]


def persons_of(busy, kind):
    return sum([work.persons for work in busy if work.kind == kind])
