"""What can be told of a plan: a list with the day on which each work begins."""


def plan_end(works, starts):
    return max([starts[k] + works[k].days for k in range(len(works))], default=0)


# The numbers of the works that something is done at on a day, rising.
def at_work(works, starts, day):
    return [k for k in range(len(works)) if starts[k] <= day and day < starts[k] + works[k].days]


# The most persons of a kind on any day: none are needed more on a day than on one before, but where a work begins.
def most_persons(works, starts, kind):
    return max([persons_on(works, starts, kind, day) for day in starts], default=0)


def persons_on(works, starts, kind, day):
    return sum([works[k].persons for k in at_work(works, starts, day) if works[k].kind == kind])
