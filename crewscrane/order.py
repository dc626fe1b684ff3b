"""Which work comes behind which, and when each can begin without crews: enough of all, and nothing fixed.

What calls itself here goes from a work to those in front of it or behind it: six deep at most, and never in a ring.
"""


# Whether work a comes after work b, or after one that does, and so on.
def comes_behind(works, a, b):
    return any([c == b or comes_behind(works, c, b) for c in works[a].waits])


def earliest_day(works, number):
    waits = works[number].waits
    return max([earliest_day(works, a) + works[a].days + waits[a] for a in waits], default=0)


def whole_span(works):
    return max([earliest_day(works, k) + works[k].days for k in range(len(works))], default=0)


# The latest day on which a work may begin so that all ends by a day that is not before the span.
def latest_day(works, number, end):
    followers = [b for b in range(len(works)) if number in works[b].waits]
    ends = [latest_day(works, b, end) - works[b].waits[number] for b in followers]
    return min(ends + [end]) - works[number].days
