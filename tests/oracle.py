"""What the document says of lexemes, walks, rings and forced numbers, told again in the plainest way."""

import math
import random
import re

LEXEME = re.compile("[a-z][a-z0-9]*|0|[1-9][0-9]*|[-{};]")


def lexemes_of(text):
    """The lexemes of a text, and the place of the first character that begins none, or None."""
    found = []
    place = 0
    while place < len(text):
        if text[place] in " \n":
            place += 1
            continue
        match = LEXEME.match(text, place)
        if match is None or (match.group()[0].isalpha() and len(match.group()) > 12):
            return found, place
        lexeme = match.group()
        sort = "word" if lexeme[0].isalpha() else "number" if lexeme[0].isdigit() else "sign"
        found.append((sort, lexeme, place))
        place = match.end()
    return found, None


def up_of(clock, x):
    first, step = clock
    while (x - first) % step != 0:
        x += 1
    return x


def down_of(clock, x):
    first, step = clock
    while (x - first) % step != 0:
        x -= 1
    return x


def period_of(points):
    return math.lcm(1, *[point[2] for point in points])


def clocks_of(points):
    return {name: (first, step) for name, first, step in points}


def led_by(points, rules, number, walk):
    for k in walk:
        number = up_of(clocks_of(points)[rules[k][1]], number + rules[k][2])
    return number


def gains(points, rules, ring):
    """Whether this is a ring that gains, of plain tuples."""
    if type(ring) is not tuple or len(ring) != 3:
        return False
    name, number, walk = ring
    if type(name) is not str or name not in clocks_of(points) or type(number) is not int:
        return False
    if up_of(clocks_of(points)[name], number) != number:
        return False
    if type(walk) is not tuple or len(walk) == 0:
        return False
    at = name
    for k in walk:
        if type(k) is not int or not 0 <= k < len(rules) or rules[k][0] != at:
            return False
        at = rules[k][1]
    return at == name and led_by(points, rules, number, walk) >= number + period_of(points)


def is_timetable(points, rules, numbers):
    places = {point[0]: k for k, point in enumerate(points)}
    if type(numbers) is not tuple or [type(number) for number in numbers] != [int] * len(points):
        return False
    if any((number - point[1]) % point[2] for number, point in zip(numbers, points)):
        return False
    return all(numbers[places[end]] >= numbers[places[start]] + least for start, end, least in rules)


def rounds_of(points):
    """After so many rounds nothing is raised, or a ring gains (S3.2)."""
    return sum(period_of(points) // point[2] for point in points)


def risen(points, rules, floors):
    """The forced numbers, or None if rising comes to no end."""
    clocks = clocks_of(points)
    numbers = {point[0]: None if floor is None else up_of(point[1:], floor)
               for point, floor in zip(points, floors)}
    for _ in range(rounds_of(points) + 2):
        raised = False
        for start, end, least in rules:
            if numbers[start] is None:
                continue
            asked = up_of(clocks[end], numbers[start] + least)
            if numbers[end] is None or numbers[end] < asked:
                numbers[end] = asked
                raised = True
        if not raised:
            return tuple(numbers.values())
    return None


def fallen(points, rules, ceilings):
    """The latest timetable below ceilings, or None if falling comes to no end."""
    clocks = clocks_of(points)
    numbers = {point[0]: down_of(point[1:], ceiling) for point, ceiling in zip(points, ceilings)}
    for _ in range(rounds_of(points) + 2):
        lowered = False
        for start, end, least in rules:
            asked = down_of(clocks[start], numbers[end] - least)
            if numbers[start] > asked:
                numbers[start] = asked
                lowered = True
        if not lowered:
            return tuple(numbers.values())
    return None


def reached(rules, names):
    """All names to which a walk leads from one of these."""
    found = set(names)
    more = True
    while more:
        behind = {end for start, end, _ in rules if start in found} - found
        more = len(behind) > 0
        found |= behind
    return found


def some_networks(seed, many, steps=(1, 2, 3, 4, 6), most=5):
    """Points and rules of many small networks, the same ones for each seed."""
    chance = random.Random(seed)
    for _ in range(many):
        points = [(f"p{k}", chance.randint(-9, 9), chance.choice(steps)) for k in range(chance.randint(1, most))]
        names = [point[0] for point in points]
        rules = [(chance.choice(names), chance.choice(names), chance.randint(-9, 4))
                 for _ in range(chance.randint(0, 2 * len(points)))]
        yield points, rules


def is_right_paper(points, rules, floors, value):
    """Whether this is a right cause paper (S3.4), of plain tuples."""
    if type(value) is not tuple or [type(part) for part in value] != [tuple, tuple]:
        return False
    numbers, walks = value
    names = [point[0] for point in points]
    if len(numbers) != len(names) or len(walks) != len(names):
        return False
    for (name, first, step), floor, number, walk in zip(points, floors, numbers, walks):
        if number is None:
            if floor is not None or walk is not None:
                return False
            continue
        if type(number) is not int or (number - first) % step != 0:
            return False
        if floor is not None and number < floor:
            return False
        if type(walk) is not tuple or len(walk) != 2 or type(walk[0]) is not str or walk[0] not in names:
            return False
        origin, steps = walk
        if type(steps) is not tuple or floors[names.index(origin)] is None:
            return False
        at = origin
        for k in steps:
            if type(k) is not int or not 0 <= k < len(rules) or rules[k][0] != at:
                return False
            at = rules[k][1]
        begun = up_of(clocks_of(points)[origin], floors[names.index(origin)])
        if at != name or led_by(points, rules, begun, steps) != number:
            return False
    told = dict(zip(names, numbers))
    for start, end, least in rules:
        if told[start] is not None and (told[end] is None or told[end] < told[start] + least):
            return False
    return True


def rests_of(clock, period):
    """The numbers of a clock from 0 to period - 1."""
    return [v for v in range(period) if (v - clock[0]) % clock[1] == 0]


def value_at(start, period, row, v):
    """The value of a lead for a number of its start."""
    return row[rests_of(start, period).index(v % period)] + v // period * period


def climbed(start, period, row, v):
    """The greatest number that v comes to (S4.3), or None with the steps to v + period or more."""
    at = v
    steps = 0
    while value_at(start, period, row, at) > at:
        at = value_at(start, period, row, at)
        steps += 1
        if at >= v + period:
            return None, steps
    return at, steps


def some_rows(seed, many, steps=(1, 2, 3, 4, 6)):
    """Starts, ends, periods and rows of many leads, the same ones for each seed."""
    chance = random.Random(seed)
    for _ in range(many):
        start = (chance.randint(-20, 20), chance.choice(steps))
        end = (chance.randint(-20, 20), chance.choice(steps))
        period = math.lcm(start[1], end[1]) * chance.choice([1, 1, 2, 5])
        base = end[0] + end[1] * chance.randint(-9, 9)
        values = range(base, base + period + 1, end[1])
        yield start, end, period, sorted(chance.choice(values) for _ in range(period // start[1]))


def lead_row(points, rules, p, q):
    """The row of the lead from p to q by rising (S5.1), or None if there is none."""
    names = [point[0] for point in points]
    row = []
    for v in rests_of(clocks_of(points)[p], period_of(points)):
        numbers = risen(points, rules, [v if name == p else None for name in names])
        row.append(numbers[names.index(q)])
    return None if None in row else row
