"""A world of things, their parts, the changes to them that are put off, and questions about them."""

HIGHEST_KIND = 15
HIGHEST_VALUE = 9999
MOST_THINGS = 20
MOST_PUT_OFF = 30
MOST_KINDS_TOLD = 12
MOST_KEPT = 6

WRONG_KIND_OR_VALUE = -1
NO_SUCH_ONE = -2
NO_SUCH_PART = -3
FULL = -5

MAKE = 0
GONE = 1
PUT = 2
TAKE = 3
GET = 4
PARTS = 5
LATER = 6
APPLY = 7
ASK = 8
KEEP = 9
FRESH = 10
SUM = 11

LATER_MADE = 0
LATER_GONE = 1
LATER_PUT = 2
LATER_TAKEN = 3
LATER_PUT_BY_WORD = 4
LATER_GONE_BY_WORD = 5


def wrong_part(kind, value):
    return kind > HIGHEST_KIND or value > HIGHEST_VALUE


def wrong_parts(parts):
    before = -1
    for at in range(0, len(parts), 2):
        if parts[at] <= before or wrong_part(parts[at], parts[at + 1]):
            return True
        before = parts[at]
    return False


def wrong_change(change):
    form = change[0]
    if form == LATER_MADE:
        return wrong_parts(change[2:])
    if form == LATER_PUT:
        return wrong_part(change[3], change[4])
    if form == LATER_TAKEN:
        return change[3] > HIGHEST_KIND
    if form == LATER_PUT_BY_WORD:
        return wrong_part(change[2], change[3])
    return False


def by_kind(parts):
    value_by_kind = {}
    for at in range(0, len(parts), 2):
        value_by_kind[parts[at]] = parts[at + 1]
    return value_by_kind


def counted_names(names):
    answer = [len(names)]
    for name in names:
        answer.extend(name)
    return answer


class Question:
    def __init__(self, all_of, none_of, one_of):
        self.all_of = all_of
        self.none_of = none_of
        self.one_of = one_of

    def wrong(self):
        kinds = self.all_of + self.none_of + self.one_of
        return len(kinds) > MOST_KINDS_TOLD or max(kinds, default=0) > HIGHEST_KIND

    def fits(self, parts):
        if not all([kind in parts for kind in self.all_of]):
            return False
        if any([kind in parts for kind in self.none_of]):
            return False
        return len(self.one_of) == 0 or any([kind in parts for kind in self.one_of])


class Kept:
    def __init__(self, question):
        self.question = question
        # The names that it told last, by their places.
        self.told = []


class Things:
    """Each call gives back the list of its answers; a refusal is a list of its number alone."""

    def __init__(self):
        # By place: the parts of the thing there (kind to value), or None. A thing may have
        # no parts and live, so an empty dict is not the same as None.
        self.held = []
        # By place: how many things are gone from it. That is the turn of the one that stands
        # there, or of the next one.
        self.turns = []

    def how_many(self):
        return len([parts for parts in self.held if parts is not None])

    def how_many_gone(self):
        return sum(self.turns)

    def twin(self):
        other = Things()
        other.held = [None if parts is None else dict(parts) for parts in self.held]
        other.turns = list(self.turns)
        return other

    def lives(self, place, turn):
        if place >= len(self.held) or self.held[place] is None:
            return False
        return self.turns[place] == turn

    def free_place(self):
        for place, parts in enumerate(self.held):
            if parts is None:
                return place
        return len(self.held)

    def bring(self, parts):
        place = self.free_place()
        if place == len(self.held):
            self.held.append(None)
            self.turns.append(0)
        self.held[place] = by_kind(parts)
        return (place, self.turns[place])

    def make(self, parts):
        if wrong_parts(parts):
            return [WRONG_KIND_OR_VALUE]
        if self.how_many() >= MOST_THINGS:
            return [FULL]
        return list(self.bring(parts))

    def gone(self, place, turn):
        if not self.lives(place, turn):
            return [NO_SUCH_ONE]
        self.held[place] = None
        self.turns[place] += 1
        return [self.how_many()]

    def put(self, place, turn, kind, value):
        if wrong_part(kind, value):
            return [WRONG_KIND_OR_VALUE]
        if not self.lives(place, turn):
            return [NO_SUCH_ONE]
        self.held[place][kind] = value
        return [0]

    def take(self, place, turn, kind):
        if not self.lives(place, turn):
            return [NO_SUCH_ONE]
        if kind not in self.held[place]:
            return [NO_SUCH_PART]
        self.held[place].pop(kind)
        return [0]

    def value_of(self, place, turn, kind):
        if not self.lives(place, turn):
            return [NO_SUCH_ONE]
        if kind not in self.held[place]:
            return [NO_SUCH_PART]
        return [self.held[place][kind]]

    def parts_of(self, place, turn):
        if not self.lives(place, turn):
            return [NO_SUCH_ONE]
        parts = self.held[place]
        answer = [len(parts)]
        # A part that was put on later may have a lower kind than those before it.
        for kind in sorted(parts):
            answer.append(kind)
            answer.append(parts[kind])
        return answer

    def told_by(self, question):
        told = []
        for place, parts in enumerate(self.held):
            if parts is not None and question.fits(parts):
                told.append((place, self.turns[place]))
        return told

    def ask(self, question):
        if question.wrong():
            return [WRONG_KIND_OR_VALUE]
        return counted_names(self.told_by(question))

    def sum_of(self, kind, question):
        if question.wrong():
            return [WRONG_KIND_OR_VALUE]
        found = [self.held[name[0]] for name in self.told_by(question)]
        values_of_kind = [parts[kind] for parts in found if kind in parts]
        return [len(values_of_kind), sum(values_of_kind)]


def by_name(change, name_by_word):
    """The change with a name where it has a word, or None if that word wasn't given."""
    if change[0] not in (LATER_PUT_BY_WORD, LATER_GONE_BY_WORD):
        return change
    if change[1] not in name_by_word:
        return None
    form = LATER_PUT if change[0] == LATER_PUT_BY_WORD else LATER_GONE
    return [form] + list(name_by_word[change[1]]) + change[2:]


def do_by_name(things, change):
    # A call that is refused changes nothing: so a name that doesn't live then needs no asking here.
    if change[0] == LATER_GONE:
        things.gone(change[1], change[2])
    elif change[0] == LATER_PUT:
        things.put(change[1], change[2], change[3], change[4])
    else:
        things.take(change[1], change[2], change[3])


def do_change(things, change, name_by_word):
    if change[0] == LATER_MADE:
        # Out first, so that a word given again stands behind the others: they are told in
        # the order in which they were given last.
        name_by_word.pop(change[1], None)
        name_by_word[change[1]] = things.bring(change[2:])
        return
    named = by_name(change, name_by_word)
    if named is not None:
        do_by_name(things, named)


class World:
    """Things, with what is kept about them from call to call."""

    def __init__(self):
        self.things = Things()
        # Changes as they were handed in, the oldest first.
        self.put_off = []
        self.kept = []

    def later(self, change):
        if wrong_change(change):
            return [WRONG_KIND_OR_VALUE]
        if len(self.put_off) >= MOST_PUT_OFF:
            return [FULL]
        self.put_off.append(change)
        return [len(self.put_off)]

    def apply(self):
        # Whether it's refused shows at the end alone (there may be more than 20 meanwhile), and
        # nothing may be done then: so all is done to a twin first.
        things = self.things.twin()
        name_by_word = {}
        for change in self.put_off:
            do_change(things, change, name_by_word)
        if things.how_many() > MOST_THINGS:
            return [FULL]
        self.things = things
        self.put_off = []
        answer = [things.how_many(), len(name_by_word)]
        for word in name_by_word:
            answer.append(word)
            answer.extend(name_by_word[word])
        return answer

    def keep(self, question):
        if question.wrong():
            return [WRONG_KIND_OR_VALUE]
        if len(self.kept) >= MOST_KEPT:
            return [FULL]
        self.kept.append(Kept(question))
        return [len(self.kept) - 1]

    def fresh(self, which):
        if which >= len(self.kept):
            return [NO_SUCH_ONE]
        kept = self.kept[which]
        before = kept.told
        kept.told = self.things.told_by(kept.question)
        came = [name for name in kept.told if name not in before]
        went = [name for name in before if name not in kept.told]
        return counted_names(came) + counted_names(went)

    def counts(self):
        return [self.things.how_many(), len(self.put_off), self.things.how_many_gone()]


class Reader:
    """Goes through the list that is handed in, and never changes it."""

    def __init__(self, numbers):
        self.numbers = numbers
        self.at = 0

    def more(self):
        return self.at < len(self.numbers)

    def number(self):
        self.at += 1
        return self.numbers[self.at - 1]

    def row(self):
        size = self.number()
        start = self.at
        self.at += size
        return self.numbers[start:self.at]


def read_question(reader):
    all_of = reader.row()
    none_of = reader.row()
    one_of = reader.row()
    return Question(all_of, none_of, one_of)


def answer_by_name(things, call, reader):
    place = reader.number()
    turn = reader.number()
    if call == GONE:
        return things.gone(place, turn)
    if call == PARTS:
        return things.parts_of(place, turn)
    kind = reader.number()
    if call == TAKE:
        return things.take(place, turn, kind)
    if call == GET:
        return things.value_of(place, turn, kind)
    return things.put(place, turn, kind, reader.number())


def answer_call(world, reader):
    call = reader.number()
    if call in (GONE, PUT, TAKE, GET, PARTS):
        return answer_by_name(world.things, call, reader)
    if call == MAKE:
        return world.things.make(reader.row())
    if call == LATER:
        return world.later(reader.row())
    if call == APPLY:
        return world.apply()
    if call == ASK:
        return world.things.ask(read_question(reader))
    if call == KEEP:
        return world.keep(read_question(reader))
    if call == FRESH:
        return world.fresh(reader.number())
    if call == SUM:
        kind = reader.number()
        return world.things.sum_of(kind, read_question(reader))
    return world.counts()


def answers(calls):
    world = World()
    reader = Reader(calls)
    told = []
    while reader.more():
        answer = answer_call(world, reader)
        told.append(len(answer))
        told.extend(answer)
    return told
