"""Writes calls as the interface tells them, and reads what is given back."""

from partsworld.things import answers

TOP = 4294967295


def make(*parts):
    return [0, len(parts), *parts]


def gone(place, turn):
    return [1, place, turn]


def put(place, turn, kind, value):
    return [2, place, turn, kind, value]


def take(place, turn, kind):
    return [3, place, turn, kind]


def get(place, turn, kind):
    return [4, place, turn, kind]


def parts(place, turn):
    return [5, place, turn]


def later(*change):
    return [6, len(change), *change]


def joined(calls):
    return [number for call in calls for number in call]


def split(told):
    """The answers, a list for each call, by the counts that stand before them."""
    found = []
    at = 0
    while at < len(told):
        count = told[at]
        answer = told[at + 1:at + 1 + count]
        if count < 1 or len(answer) != count:
            raise AssertionError(f"a count that doesn't fit at {at}: {told}")
        found.append(answer)
        at += 1 + count
    return found


def ask(*calls):
    """One list of answers for each of the calls, all about one new world."""
    return split(answers(joined(calls)))


def last(*calls):
    return ask(*calls)[-1]
