"""Many lists of calls against the document's words, written down a second time and otherwise.

The model keeps every thing that ever was, and counts where the program keeps counts.
"""

import unittest

from tests.helper import TOP, ask, get, gone, later, make, parts, put, take


class Model:
    def __init__(self):
        self.ever = []
        self.changes = 0

    def living(self):
        return [thing for thing in self.ever if thing["lives"]]

    def named(self, place, turn):
        found = [thing for thing in self.living() if thing["name"] == (place, turn)]
        return found[0] if found else None

    def answer(self, call):
        number, rest = call[0], call[1:]
        if number == 0:
            return self.make(rest[1:])
        if number == 6:
            return self.later(rest[1:])
        if number == 2 and wrong(rest[2:]):
            return [-1]
        thing = self.named(rest[0], rest[1])
        if thing is None:
            return [-2]
        if number in (3, 4) and rest[2] not in thing["parts"]:
            return [-3]
        return self.about(number, thing, rest[2:])

    def about(self, number, thing, rest):
        if number == 1:
            thing["lives"] = False
            return [len(self.living())]
        if number == 2:
            thing["parts"][rest[0]] = rest[1]
            return [0]
        if number == 3:
            del thing["parts"][rest[0]]
            return [0]
        if number == 4:
            return [thing["parts"][rest[0]]]
        pairs = sorted(thing["parts"].items())
        return [len(pairs)] + [number for pair in pairs for number in pair]

    def make(self, row):
        if wrong(row):
            return [-1]
        if len(self.living()) == 20:
            return [-5]
        taken = {thing["name"][0] for thing in self.living()}
        place = min(place for place in range(21) if place not in taken)
        turn = sum(thing["name"][0] == place for thing in self.ever)
        self.ever.append({"name": (place, turn), "parts": dict(zip(row[::2], row[1::2])), "lives": True})
        return [place, turn]

    def later(self, change):
        row = {0: change[2:], 1: [], 2: change[3:], 3: change[3:] + [0], 4: change[2:], 5: []}[change[0]]
        if wrong(row):
            return [-1]
        if self.changes == 30:
            return [-5]
        self.changes += 1
        return [self.changes]


def wrong(row):
    kinds, values = row[::2], row[1::2]
    return kinds != sorted(set(kinds)) or max(kinds, default=0) > 15 or max(values, default=0) > 9999


class Dice:
    """The same throws each time, on every Python."""

    def __init__(self, seed):
        self.state = seed

    def below(self, limit):
        self.state = (self.state * 6364136223846793005 + 1442695040888963407) % 2 ** 64
        return (self.state >> 33) % limit

    def one_of(self, choices):
        return choices[self.below(len(choices))]

    def kind(self):
        return self.one_of([0, 1, 2, 3, 3, 2, 1, 14, 15, 16, TOP][:11 if self.below(8) == 0 else 9])

    def value(self):
        return self.one_of([0, 1, 7, 9998, 9999, 10000, TOP][:7 if self.below(8) == 0 else 5])

    def row(self):
        kinds = [self.kind() for number in range(self.below(5))]
        if self.below(8):
            kinds = sorted(set(kinds))
        return [number for kind in kinds for number in (kind, self.value())]

    def name(self):
        if self.below(16) == 0:
            return self.one_of([(TOP, 0), (0, TOP), (20, 0), (19, 0)])
        return self.below(4), self.below(3)

    def change(self):
        return self.one_of([
            [0, self.below(3), *self.row()], [1, *self.name()], [2, *self.name(), self.kind(), self.value()],
            [3, *self.name(), self.kind()], [4, self.below(3), self.kind(), self.value()], [5, self.one_of([0, TOP])]])

    def call(self):
        name = self.name()
        return self.one_of([
            make(*self.row()), make(*self.row()), gone(*name), put(*name, self.kind(), self.value()),
            take(*name, self.kind()), get(*name, self.kind()), parts(*name), later(*self.change())])


class AgainstTheModel(unittest.TestCase):
    def assert_as_told(self, calls):
        model = Model()
        self.assertEqual(ask(*calls), [model.answer(call) for call in calls], calls)

    def test_calls_of_every_sort(self):
        for seed in range(1500):
            dice = Dice(seed)
            self.assert_as_told([dice.call() for number in range(1 + dice.below(40))])

    def test_a_world_that_is_nearly_full(self):
        for seed in range(300):
            dice = Dice(seed)
            calls = [make(*dice.row()) for number in range(24)]
            self.assert_as_told(calls + [dice.call() for number in range(16)])

    def test_nearly_30_put_off(self):
        for seed in range(300):
            dice = Dice(seed)
            calls = [later(*dice.change()) for number in range(34)]
            self.assert_as_told(calls + [dice.call() for number in range(6)])


if __name__ == "__main__":
    unittest.main()
