"""Many lists of calls against the document's words, written down a second time and otherwise.

The model keeps every thing that ever was and every word that was given, and looks through them
where the program keeps what it needs.
"""

import copy
import unittest

from tests.helper import (TOP, apply, ask, count, fresh, get, gone, keep, later, make, parts, put, run, sum_of, take)


class Model:
    def __init__(self):
        self.ever = []
        self.changes = []
        self.kept = []

    def living(self):
        return [thing for thing in self.ever if thing["lives"]]

    def named(self, name):
        found = [thing for thing in self.living() if thing["name"] == tuple(name)]
        return found[0] if found else None

    def answer(self, call):
        number, rest = call[0], call[1:]
        if number == 0:
            return self.make(rest[1:])
        if number == 6:
            return self.later(rest[1:])
        if number == 7:
            return self.apply()
        if number == 8:
            return self.ask(rows(rest))
        if number == 9:
            return self.keep(rows(rest))
        if number == 10:
            return self.fresh(rest[0])
        if number == 11:
            return self.sum_of(rest[0], rows(rest[1:]))
        if number == 12:
            return [len(self.living()), len(self.changes), len(self.ever) - len(self.living())]
        return self.by_name(number, rest)

    def by_name(self, number, rest):
        if number == 2 and wrong(rest[2:]):
            return [-1]
        thing = self.named(rest[:2])
        if thing is None:
            return [-2]
        if number in (3, 4) and rest[2] not in thing["parts"]:
            return [-3]
        return self.about(number, thing, rest[2:])

    def about(self, number, thing, rest):
        if number == 1:
            thing["lives"] = False
            return [len(self.living())]
        if number == 2:
            thing["parts"][rest[0]] = rest[1]
            return [0]
        if number == 3:
            del thing["parts"][rest[0]]
            return [0]
        if number == 4:
            return [thing["parts"][rest[0]]]
        pairs = sorted(thing["parts"].items())
        return [len(pairs)] + [number for pair in pairs for number in pair]

    def make(self, row):
        if wrong(row):
            return [-1]
        if len(self.living()) == 20:
            return [-5]
        return list(self.made(row)["name"])

    def made(self, row):
        taken = {thing["name"][0] for thing in self.living()}
        place = min(place for place in range(len(taken) + 1) if place not in taken)
        turn = sum(thing["name"][0] == place for thing in self.ever)
        thing = {"name": (place, turn), "parts": dict(zip(row[::2], row[1::2])), "lives": True}
        self.ever.append(thing)
        return thing

    def later(self, change):
        row = {0: change[2:], 1: [], 2: change[3:], 3: change[3:] + [0], 4: change[2:], 5: []}[change[0]]
        if wrong(row):
            return [-1]
        if len(self.changes) == 30:
            return [-5]
        self.changes.append(change)
        return [len(self.changes)]

    def apply(self):
        before = copy.deepcopy(self.ever)
        given = []
        for change in self.changes:
            self.do(change, given)
        if len(self.living()) > 20:
            self.ever = before
            return [-5]
        self.changes = []
        words = [word for word, thing in given]
        lasts = [(word, *thing["name"]) for at, (word, thing) in enumerate(given) if word not in words[at + 1:]]
        return [len(self.living()), len(lasts)] + [number for told in lasts for number in told]

    def do(self, change, given):
        form, rest = change[0], change[1:]
        if form == 0:
            given.append((rest[0], self.made(rest[1:])))
        elif form in (1, 2, 3):
            self.by_name(form, rest)
        else:
            under = [thing for word, thing in given if word == rest[0]]
            if under and under[-1]["lives"]:
                self.about({4: 2, 5: 1}[form], under[-1], rest[1:])

    def told(self, question):
        must, must_not, one = [set(kinds) for kinds in question]
        found = [thing for thing in self.living()
                 if must <= set(thing["parts"]) and not must_not & set(thing["parts"])
                 and (one & set(thing["parts"]) or not one)]
        return sorted(found, key=lambda thing: thing["name"])

    def ask(self, question):
        return [-1] if unfit(question) else names([thing["name"] for thing in self.told(question)])

    def keep(self, question):
        if unfit(question):
            return [-1]
        if len(self.kept) == 6:
            return [-5]
        self.kept.append((question, []))
        return [len(self.kept) - 1]

    def fresh(self, which):
        if which not in range(len(self.kept)):
            return [-2]
        question, before = self.kept[which]
        now = [thing["name"] for thing in self.told(question)]
        self.kept[which] = (question, now)
        return names(sorted(set(now) - set(before))) + names(sorted(set(before) - set(now)))

    def sum_of(self, kind, question):
        if unfit(question):
            return [-1]
        having = [thing for thing in self.told(question) if kind in thing["parts"]]
        return [len(having), sum(thing["parts"][kind] for thing in having)]


def wrong(row):
    kinds, values = row[::2], row[1::2]
    return kinds != sorted(set(kinds)) or max(kinds, default=0) > 15 or max(values, default=0) > 9999


def unfit(question):
    return sum(len(kinds) for kinds in question) > 12 or any(kind > 15 for kinds in question for kind in kinds)


def rows(numbers):
    found = []
    while numbers:
        found.append(numbers[1:1 + numbers[0]])
        numbers = numbers[1 + numbers[0]:]
    return found


def names(told):
    return [len(told)] + [number for name in told for number in name]


class Dice:
    """The same throws each time, on every Python."""

    def __init__(self, seed):
        self.state = seed

    def below(self, limit):
        self.state = (self.state * 6364136223846793005 + 1442695040888963407) % 2 ** 64
        return (self.state >> 33) % limit

    def one_of(self, choices):
        return choices[self.below(len(choices))]

    def kind(self):
        return self.one_of([0, 1, 2, 3, 3, 2, 1, 14, 15, 16, TOP][:11 if self.below(8) == 0 else 9])

    def value(self):
        return self.one_of([0, 1, 7, 9998, 9999, 10000, TOP][:7 if self.below(8) == 0 else 5])

    def row(self):
        kinds = [self.kind() for number in range(self.below(5))]
        if self.below(8):
            kinds = sorted(set(kinds))
        return [number for kind in kinds for number in (kind, self.value())]

    def name(self):
        if self.below(16) == 0:
            return self.one_of([(TOP, 0), (0, TOP), (20, 0), (19, 0)])
        return self.below(4), self.below(3)

    def change(self):
        form = self.below(6)
        if form == 0:
            return [0, self.below(3), *self.row()]
        if form == 1:
            return [1, *self.name()]
        if form == 2:
            return [2, *self.name(), self.kind(), self.value()]
        if form == 3:
            return [3, *self.name(), self.kind()]
        if form == 4:
            return [4, self.below(4), self.kind(), self.value()]
        return [5, self.one_of([0, 1, 2, TOP])]

    def question(self):
        if self.below(8) == 0:
            sizes = self.one_of([(12, 0, 0), (0, 12, 0), (0, 0, 12), (4, 4, 4), (5, 4, 4), (0, 13, 0), (16, 16, 16)])
            return [[self.one_of([0, 1, 2, 15]) for number in range(size)] for size in sizes]
        return [[self.kind() for number in range(self.below(3))] for size in range(3)]

    def by_name(self):
        name = self.name()
        return self.one_of([gone(*name), put(*name, self.kind(), self.value()), take(*name, self.kind()),
                            get(*name, self.kind()), parts(*name)])

    def making(self):
        return make(*self.row())

    def asking(self):
        return self.one_of([ask(*self.question()), sum_of(self.kind(), *self.question()), count()])

    def keeping(self):
        return self.one_of([keep(*self.question()), fresh(0), fresh(1), fresh(self.below(7))])

    def putting_off(self):
        return later(*self.change()) if self.below(4) else apply()

    def call(self):
        return self.one_of([self.making, self.by_name, self.by_name, self.asking, self.keeping,
                            self.putting_off, self.putting_off])()

    def calls(self, size):
        return [self.call() for number in range(size)]


class AgainstTheModel(unittest.TestCase):
    def assert_as_told(self, calls):
        model = Model()
        self.assertEqual(run(*calls), [model.answer(call) for call in calls], calls)

    def test_calls_of_every_sort(self):
        for seed in range(1500):
            dice = Dice(seed)
            self.assert_as_told(dice.calls(1 + dice.below(40)))

    def test_a_world_that_is_nearly_full(self):
        for seed in range(300):
            dice = Dice(seed)
            made = [dice.making() for number in range(17 + dice.below(8))]
            self.assert_as_told(made + dice.calls(40 - len(made)))

    def test_nearly_30_put_off(self):
        for seed in range(300):
            dice = Dice(seed)
            put_off = [later(*dice.change()) for number in range(26 + dice.below(8))]
            self.assert_as_told(put_off + [apply()] + dice.calls(39 - len(put_off)))

    def test_about_20_things_when_all_is_done(self):
        for seed in range(300):
            dice = Dice(seed)
            made = [later(0, dice.below(12), *dice.row()) for number in range(18 + dice.below(5))]
            done = [later(5, dice.below(12)) for number in range(dice.below(5))]
            self.assert_as_told(made + done + [apply(), ask(), count(), make(), *dice.calls(9)])

    def test_kept_questions_while_much_changes(self):
        for seed in range(300):
            dice = Dice(seed)
            calls = [keep(), keep([1]), keep([], [2]), keep([], [], [1, 3]), *[make(1, 1, 2, 2)] * 3]
            for number in range(8):
                calls += [dice.by_name(), dice.putting_off(), dice.making(), fresh(dice.below(4))]
            self.assert_as_told(calls)


class WithoutTheModel(unittest.TestCase):
    """What the document promises over all calls, held against the program's own answers."""

    def test_a_refusal_leaves_all_as_it_was(self):
        for seed in range(500):
            dice = Dice(seed)
            made = [dice.making() for number in range(dice.one_of([0, 0, 19]))]
            calls = made + dice.calls(40 - len(made))
            pairs = [(call, answer) for call, answer in zip(calls, run(*calls)) if answer[0] >= 0]
            self.assertEqual(run(*[call for call, answer in pairs]), [answer for call, answer in pairs])

    def test_what_is_gone_never_comes_back(self):
        for seed in range(300):
            dice = Dice(seed)
            calls = []
            for number in range(13):
                calls += [dice.one_of([dice.making, dice.by_name, dice.putting_off])(), apply(), ask()]
            gone_names, before = set(), set()
            for answer in run(*calls)[2::3]:
                now = set(pairs_of(answer[1:]))
                gone_names |= before - now
                self.assertEqual(now & gone_names, set())
                before = now

    def test_told_what_came_and_went_one_knows_what_is_asked_for(self):
        for seed in range(300):
            dice = Dice(seed)
            question = [[dice.below(4)] * dice.below(2) for number in range(3)]
            calls = [keep(*question)]
            for number in range(13):
                calls += [dice.one_of([dice.making, dice.by_name, dice.putting_off])(), fresh(0), ask(*question)]
            known = set()
            answered = run(*calls)[1:]
            for told, asked in zip(answered[1::3], answered[2::3]):
                came = pairs_of(told[1:1 + 2 * told[0]])
                went = pairs_of(told[2 + 2 * told[0]:])
                self.assertEqual((set(came) & known, set(went) - known), (set(), set()))
                known = known - set(went) | set(came)
                self.assertEqual(sorted(known), pairs_of(asked[1:]))

    def test_put_off_changes_are_as_if_done_then(self):
        for seed in range(300):
            dice = Dice(seed)
            begun = [make(1, 1, 3, 3)] * 4
            changes = [change for change in [dice.change() for number in range(15)] if change[0] < 4]
            # The forms 1 to 3 are written just like the calls gone, put and take.
            at_once = [make(*change[2:]) if change[0] == 0 else change for change in changes]
            seen = [ask(), ask([1]), count(), *[parts(place, 0) for place in range(6)]]
            put_off = run(*begun, *[later(*change) for change in changes], apply(), *seen)
            self.assertEqual(put_off[-len(seen):], run(*begun, *at_once, *seen)[-len(seen):])


def pairs_of(numbers):
    return list(zip(numbers[::2], numbers[1::2]))


class TheDice(unittest.TestCase):
    """The lists above are worth something only if they come to every answer and refusal."""

    def test_each_call_is_answered_and_refused(self):
        seen = set()
        for seed in range(1500):
            dice = Dice(seed)
            made = [make(1, 1)] * (20 * (seed % 3 == 0)) + [later(0, 7)] * (20 * (seed % 3 == 1))
            calls = made + dice.calls(40 - len(made))
            seen |= {(call[0], min(answer[0], 0)) for call, answer in zip(calls, run(*calls))}
        refusals = {0: (-1, -5), 1: (-2,), 2: (-1, -2), 3: (-2, -3), 4: (-2, -3), 5: (-2,), 6: (-1,), 7: (-5,),
                    8: (-1,), 9: (-1,), 10: (-2,), 11: (-1,), 12: ()}
        wanted = {(call, number) for call in refusals for number in (0, *refusals[call])}
        self.assertEqual(wanted - seen, set())


if __name__ == "__main__":
    unittest.main()
