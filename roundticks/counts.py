"""Leads as rows of counts, by which points go out fast.

The COUNT of a number of a clock is 0 for the least number from 0 on, 1 for the next
one, -1 for the one ahead of it, and so on. A row of counts has, for the counts from 0
on of a period of the start, the counts of their values; a period further on at the
start, all values are a period of the end further on.
"""


def count_of(clock, number):
    """The count of a number of a clock."""
    return number // clock[1]


def number_of(clock, count):
    """The number of a clock that has a count."""
    first, step = clock
    return first % step + count * step


def counts_of(lead):
    """The row of counts of a lead."""
    end = lead.end()
    return [count_of(end, number) for number in lead.row()]


def then_row(one, other, many):
    """The row of one lead and then other; many is how many counts a period of other's end has."""
    between = len(other)
    return [other[count % between] + count // between * many for count in one]


def later_row(one, other):
    """The row of the later one of two leads."""
    return [max(pair) for pair in zip(one, other)]


def climb(row, heights, count):
    """Goes from a count to its value and on, as long as it becomes greater.

    heights has, for each count that is settled, how far it climbs, and None for the
    others; all that are passed are settled. Returns None, or the number of steps to a
    period further on, from which there is no end.
    """
    many = len(row)
    passed = []
    at = count
    while heights[at % many] is None:
        if at >= count + many:
            return len(passed)
        passed.append(at)
        value = row[at % many] + at // many * many
        if value > at:
            at = value
        else:
            heights[at % many] = 0
    top = at + heights[at % many]
    for lower in passed:
        heights[lower % many] = top - lower
    return None


def star_row(row):
    """The pair of the row of the star of a lead from a clock to itself, and None.

    If the lead gains, the pair is None, and the pair of the least count from 0 on that
    comes to a period further on and of the number of steps to there.
    """
    heights = [None] * len(row)
    for count in range(len(row)):
        steps = climb(row, heights, count)
        if steps is not None:
            return (None, (count, steps))
    return ([count + height for count, height in enumerate(heights)], None)
