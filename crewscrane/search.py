"""The search for the best plan, with crews, a crane and fixed works.

While it is sought, a plan is a list with the day on which each work begins, and None for one that is not placed yet.
"""

from crewscrane.board import Board
from crewscrane.order import earliest_day
from crewscrane.plans import most_persons, plan_end


# In the best plan no work that isn't fixed can begin earlier with all others left where they are. So it is found by
# placing work behind work, each as early as it goes, in the order in which they begin: every such order is tried.
class Search:
    def __init__(self, site):
        self.works = site.works
        self.board = Board(site.crews)
        # Each work takes a day at least: in this order none stands ahead of one that it comes after.
        self.order = sorted(range(len(site.works)), key=lambda number: earliest_day(site.works, number))
        self.least_end = least_end(site)
        # The rank of the best plan so far; None before the first.
        self.best = None

    # Whether the fixed works leave one another enough; they are on the board then.
    def put_fixed(self):
        for work in self.works:
            if work.fixed is not None:
                if self.board.last_clash(work, work.fixed) is not None:
                    return False
                self.board.put(work, work.fixed)
        return True

    # Goes through all plans that this one can become. Its last placed work and that one's day are handed on, since the
    # next begins behind that day, or on it with a greater number: so no plan comes up in two orders.
    def fill(self, starts, last, since):
        floors = self.floors(starts, last, since)
        if floors is None:
            return
        rank = self.rank(floors)
        if self.best is not None and rank >= self.best:
            return
        if None not in starts:
            self.best = rank
            return
        for number in ready_works(self.works, starts):
            self.fill_behind(starts, number, floors[number])

    def fill_behind(self, starts, number, day):
        more = list(starts)
        more[number] = day
        self.board.put(self.works[number], day)
        self.fill(more, number, day)
        self.board.lift(self.works[number], day)

    # For each work a day that it begins on at the earliest in all plans that this one can become: what is placed later
    # only takes room. None if a fixed work would have to begin later.
    def floors(self, starts, last, since):
        days = list(starts)
        for number in self.order:
            first = first_day_behind(self.works, days, number)
            if starts[number] is None:
                turn = since if number > last else since + 1
                days[number] = self.board.first_day(self.works[number], max(first, turn))
            elif starts[number] < first:
                return None
        return days

    # Of two plans the better one has the lesser rank; floors have no greater one than the plans that they stand for.
    def rank(self, starts):
        return [max(self.least_end, plan_end(self.works, starts))] + starts


# A day before which no plan ends: the crane is at one work a day, and no crew does more in a day than it has hands.
def least_end(site):
    least = sum([work.days for work in site.works if work.crane == 1])
    for kind in range(len(site.crews)):
        whole = sum([work.days * work.persons for work in site.works if work.kind == kind])
        if whole > 0:
            least = max(least, (whole - 1) // site.crews[kind] + 1)
    return least


# The works that are not placed while all that they come after are.
def ready_works(works, starts):
    left = [number for number in range(len(works)) if starts[number] is None]
    return [number for number in left if all([starts[a] is not None for a in works[number].waits])]


# The first day that is late enough behind all that a work comes after.
def first_day_behind(works, starts, number):
    waits = works[number].waits
    return max([starts[a] + works[a].days + waits[a] for a in waits], default=0)


# The best plan of a site; None if no plan holds.
def best_plan(site):
    if any([work.persons > site.crews[work.kind] for work in site.works]):
        return None
    search = Search(site)
    if search.put_fixed():
        search.fill([work.fixed for work in site.works], -1, 0)
    if search.best is None:
        return None
    return search.best[1:]


# The least size of a crew by which the best plan ends as early as by any.
def least_crew(site, kind):
    trial = site.twin()
    # By as many as all works need together none waits for hands of that kind.
    trial.crews[kind] = sum([work.persons for work in trial.works])
    plan = best_plan(trial)
    end = plan_end(trial.works, plan)
    size = most_persons(trial.works, plan, kind)
    # More hands never take longer: a size is the least one if one fewer doesn't do.
    while size > 0:
        trial.crews[kind] = size - 1
        plan = best_plan(trial)
        if plan is None or plan_end(trial.works, plan) > end:
            return size
        size = most_persons(trial.works, plan, kind)
    return 0
