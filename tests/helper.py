"""What several tests share: calls that watch their arguments, and slow answers to compare with."""

from copy import deepcopy
import re


def call(test, function, *arguments):
    """Call a function and return or raise what it does; its arguments must stay as they were."""
    before = deepcopy(arguments)
    try:
        return function(*arguments)
    finally:
        test.assertEqual(before, arguments)


def fault(test, error, function, *arguments):
    """Return the error that a call raises; it must be of just this class."""
    with test.assertRaises(error) as caught:
        call(test, function, *arguments)
    test.assertIs(type(caught.exception), error)
    return caught.exception


def slow_points(hyphens, text):
    """Points found the plain way: each pattern tried at each place of each word."""
    _, patterns, exceptions, left, right = hyphens
    found = []
    for run in re.finditer("[a-zA-Z]+", text):
        word = run.group().lower()
        places = slow_places(patterns, word)
        for exception in exceptions:
            if exception.replace("-", "") == word:
                parts = exception.split("-")
                places = [len("".join(parts[:k])) for k in range(1, len(parts))]
        found += [run.start() + p for p in places if p >= left and len(word) - p >= right]
    return found


def slow_places(patterns, word):
    """The places of a word that have an odd number."""
    dotted = f".{word}."
    numbers = {}
    for pattern in patterns:
        signs = re.sub("[0-9]", "", pattern)
        pairs = re.findall("([0-9]?)([a-z.]|$)", pattern)
        for start in range(len(dotted)):
            if dotted[start:start + len(signs)] == signs:
                for k, (digit, _) in enumerate(pairs):
                    numbers[start + k] = max(numbers.get(start + k, 0), int(digit or "0"))
    return [p for p in range(1, len(word)) if numbers.get(p + 1, 0) % 2 == 1]
