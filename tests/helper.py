"""What several tests share: calls that watch their arguments, and slow answers to compare with."""

from copy import deepcopy
import re


def call(test, function, *arguments):
    """Call a function and return or raise what it does; its arguments must stay as they were."""
    before = deepcopy(arguments)
    try:
        return function(*arguments)
    finally:
        test.assertEqual(before, arguments)


def fault(test, error, function, *arguments):
    """Return the error that a call raises; it must be of just this class."""
    with test.assertRaises(error) as caught:
        call(test, function, *arguments)
    test.assertIs(type(caught.exception), error)
    return caught.exception


def slow_points(hyphens, text):
    """Points found the plain way: each pattern tried at each place of each word."""
    _, patterns, exceptions, left, right = hyphens
    found = []
    for run in re.finditer("[a-zA-Z]+", text):
        word = run.group().lower()
        places = slow_places(patterns, word)
        for exception in exceptions:
            if exception.replace("-", "") == word:
                parts = exception.split("-")
                places = [len("".join(parts[:k])) for k in range(1, len(parts))]
        found += [run.start() + p for p in places if p >= left and len(word) - p >= right]
    return found


def slow_places(patterns, word):
    """The places of a word that have an odd number."""
    dotted = f".{word}."
    numbers = {}
    for pattern in patterns:
        signs = re.sub("[0-9]", "", pattern)
        pairs = re.findall("([0-9]?)([a-z.]|$)", pattern)
        for start in range(len(dotted)):
            if dotted[start:start + len(signs)] == signs:
                for k, (digit, _) in enumerate(pairs):
                    numbers[start + k] = max(numbers.get(start + k, 0), int(digit or "0"))
    return [p for p in range(1, len(word)) if numbers.get(p + 1, 0) % 2 == 1]


def slow_line(items, measure, tolerance, costs, before, at, kind=1):
    """The class and the cost of a line behind one of a class, straight from points 7.2 to 7.6; or None."""
    if not before < at < len(items) or not may_end(items, at):
        return None
    line = items[before + 1:at]
    if any(item[0] == "penalty" and item[2] == -10000 for item in line):
        return None
    while line and line[0][0] != "box":
        line = line[1:]
    glue = [item for item in line if item[0] == "glue"]
    wide = sum(item[1] for item in line if item[0] != "penalty")
    end = items[at]
    if end[0] == "penalty":
        wide += end[1]
    gap = measure - wide
    room = sum(item[2] for item in glue) if gap > 0 else sum(item[3] for item in glue)
    if gap == 0:
        bad = 0
    else:
        bad = min(10000, 100 * abs(gap) ** 3 // room ** 3) if room else 10000
    if wide - sum(item[3] for item in glue) > measure or bad > (max(tolerance, 100) if gap < 0 else tolerance):
        return None
    own = 1 if bad <= 12 else 0 if gap < 0 else 2 if bad < 100 else 3
    cost = (costs[0] + bad) ** 2
    if end[0] == "penalty" and end[2] > -10000:
        cost += end[2] ** 2 if end[2] >= 0 else -end[2] ** 2
    if before >= 0 and all(item[0] == "penalty" and item[3] for item in (items[before], end)):
        cost += costs[1]
    return own, cost + (costs[2] if abs(own - kind) > 1 else 0)


def may_end(items, at):
    """Tell whether a line may end at an item (point 7.2)."""
    if items[at][0] == "penalty":
        return items[at][2] < 10000
    return items[at][0] == "glue" and at > 0 and items[at - 1][0] == "box"


def slow_ways(items, measure, tolerance, costs):
    """All (breaks, class, cost) that feasible lines from the beginning on have."""
    ways = [([], 1, 0)]
    for breaks, kind, cost in ways:
        before = breaks[-1] if breaks else -1
        for at in range(before + 1, len(items)):
            line = slow_line(items, measure, tolerance, costs, before, at, kind)
            if line is not None:
                ways.append(([*breaks, at], line[0], cost + line[1]))
    return ways


def slow_states(items, measure, tolerance, costs):
    """The least costs of the breaks and classes that feasible lines reach."""
    states = {}
    for breaks, kind, cost in slow_ways(items, measure, tolerance, costs):
        state = (breaks[-1] if breaks else -1, kind)
        states[state] = min(cost, states.get(state, cost))
    return states


def slow_breaks(items, measure, tolerance, costs):
    """The cost of the best breaks and the breaks (point 7.7), or None."""
    whole = [(cost, len(breaks), breaks) for breaks, _, cost in slow_ways(items, measure, tolerance, costs)
             if breaks[-1:] == [len(items) - 1]]
    return min(whole)[::2] if whole else None


def slow_cost(items, measure, tolerance, costs, breaks):
    """The cost of breaks, line by line, or None."""
    cost, before, kind = 0, -1, 1
    for at in breaks:
        line = slow_line(items, measure, tolerance, costs, before, at, kind)
        if line is None:
            return None
        before, kind, cost = at, line[0], cost + line[1]
    return cost if before == len(items) - 1 else None
