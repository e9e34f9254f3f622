"""Writes calls as the interface tells them, and reads what is given back."""

from partsworld.things import answers

TOP = 4294967295
MOST_CALLS = 40
MOST_NUMBERS = 2400


def make(*parts):
    return [0, len(parts), *parts]


def gone(place, turn):
    return [1, place, turn]


def put(place, turn, kind, value):
    return [2, place, turn, kind, value]


def take(place, turn, kind):
    return [3, place, turn, kind]


def get(place, turn, kind):
    return [4, place, turn, kind]


def parts(place, turn):
    return [5, place, turn]


def later(*change):
    return [6, len(change), *change]


def apply():
    return [7]


def question(all_of, none_of, one_of):
    return [number for kinds in (all_of, none_of, one_of) for number in (len(kinds), *kinds)]


def ask(all_of=(), none_of=(), one_of=()):
    return [8, *question(all_of, none_of, one_of)]


def keep(all_of=(), none_of=(), one_of=()):
    return [9, *question(all_of, none_of, one_of)]


def fresh(which):
    return [10, which]


def sum_of(kind, all_of=(), none_of=(), one_of=()):
    return [11, kind, *question(all_of, none_of, one_of)]


def count():
    return [12]


def joined(calls):
    return [number for call in calls for number in call]


def split(told):
    """The answers, a list for each call, by the counts that stand before them."""
    found = []
    at = 0
    while at < len(told):
        size = told[at]
        answer = told[at + 1:at + 1 + size]
        if size < 1 or len(answer) != size:
            raise AssertionError(f"a count that doesn't fit at {at}: {told}")
        found.append(answer)
        at += 1 + size
    return found


def run(*calls):
    """One list of answers for each of the calls, all about one new world."""
    numbers = joined(calls)
    if len(calls) > MOST_CALLS or len(numbers) > MOST_NUMBERS:
        raise AssertionError("more than is ever handed in")
    return split(answers(numbers))


def last(*calls):
    return run(*calls)[-1]
