"""A world of things, their parts, and the changes to them that are put off."""

HIGHEST_KIND = 15
HIGHEST_VALUE = 9999
MOST_THINGS = 20
MOST_PUT_OFF = 30

WRONG_PART = -1
NOT_LIVING = -2
NO_SUCH_PART = -3
FULL = -5

MAKE = 0
GONE = 1
PUT = 2
TAKE = 3
GET = 4
PARTS = 5
LATER = 6

LATER_MADE = 0
LATER_PUT = 2
LATER_TAKEN = 3
LATER_PUT_BY_WORD = 4


def wrong_part(kind, value):
    return kind > HIGHEST_KIND or value > HIGHEST_VALUE


def wrong_parts(parts):
    before = -1
    for at in range(0, len(parts), 2):
        if parts[at] <= before or wrong_part(parts[at], parts[at + 1]):
            return True
        before = parts[at]
    return False


def wrong_change(change):
    form = change[0]
    if form == LATER_MADE:
        return wrong_parts(change[2:])
    if form == LATER_PUT:
        return wrong_part(change[3], change[4])
    if form == LATER_TAKEN:
        return change[3] > HIGHEST_KIND
    if form == LATER_PUT_BY_WORD:
        return wrong_part(change[2], change[3])
    return False


def by_kind(parts):
    value_by_kind = {}
    for at in range(0, len(parts), 2):
        value_by_kind[parts[at]] = parts[at + 1]
    return value_by_kind


class World:
    """Each call gives back the list of its answers; a refusal is a list of its number alone."""

    def __init__(self):
        # By place: the parts of the thing there (kind to value), or None. A thing may have
        # no parts and live, so an empty dict is not the same as None.
        self.held = []
        # By place: how many things are gone from it. That is the turn of the one that stands
        # there, or of the next one.
        self.turns = []
        # Changes as they were handed in, the oldest first.
        self.put_off = []

    def how_many(self):
        return len([parts for parts in self.held if parts is not None])

    def lives(self, place, turn):
        if place >= len(self.held) or self.held[place] is None:
            return False
        return self.turns[place] == turn

    def free_place(self):
        for place, parts in enumerate(self.held):
            if parts is None:
                return place
        return len(self.held)

    def make(self, parts):
        if wrong_parts(parts):
            return [WRONG_PART]
        if self.how_many() >= MOST_THINGS:
            return [FULL]
        place = self.free_place()
        if place == len(self.held):
            self.held.append(None)
            self.turns.append(0)
        self.held[place] = by_kind(parts)
        return [place, self.turns[place]]

    def gone(self, place, turn):
        if not self.lives(place, turn):
            return [NOT_LIVING]
        self.held[place] = None
        self.turns[place] += 1
        return [self.how_many()]

    def put(self, place, turn, kind, value):
        if wrong_part(kind, value):
            return [WRONG_PART]
        if not self.lives(place, turn):
            return [NOT_LIVING]
        self.held[place][kind] = value
        return [0]

    def take(self, place, turn, kind):
        if not self.lives(place, turn):
            return [NOT_LIVING]
        if kind not in self.held[place]:
            return [NO_SUCH_PART]
        self.held[place].pop(kind)
        return [0]

    def value_of(self, place, turn, kind):
        if not self.lives(place, turn):
            return [NOT_LIVING]
        if kind not in self.held[place]:
            return [NO_SUCH_PART]
        return [self.held[place][kind]]

    def parts_of(self, place, turn):
        if not self.lives(place, turn):
            return [NOT_LIVING]
        parts = self.held[place]
        answer = [len(parts)]
        # A part that was put on later may have a lower kind than those before it.
        for kind in sorted(parts):
            answer.append(kind)
            answer.append(parts[kind])
        return answer

    def later(self, change):
        if wrong_change(change):
            return [WRONG_PART]
        if len(self.put_off) >= MOST_PUT_OFF:
            return [FULL]
        self.put_off.append(change)
        return [len(self.put_off)]


class Reader:
    """Goes through the list that is handed in, and never changes it."""

    def __init__(self, numbers):
        self.numbers = numbers
        self.at = 0

    def more(self):
        return self.at < len(self.numbers)

    def number(self):
        self.at += 1
        return self.numbers[self.at - 1]

    def row(self):
        size = self.number()
        start = self.at
        self.at += size
        return self.numbers[start:self.at]


def answer_by_name(world, call, reader):
    place = reader.number()
    turn = reader.number()
    if call == GONE:
        return world.gone(place, turn)
    if call == PARTS:
        return world.parts_of(place, turn)
    kind = reader.number()
    if call == TAKE:
        return world.take(place, turn, kind)
    if call == GET:
        return world.value_of(place, turn, kind)
    return world.put(place, turn, kind, reader.number())


def answer_call(world, reader):
    call = reader.number()
    if call == MAKE:
        return world.make(reader.row())
    if call == LATER:
        return world.later(reader.row())
    if call in (GONE, PUT, TAKE, GET, PARTS):
        return answer_by_name(world, call, reader)
    raise NotImplementedError(f"call {call} is not built yet")


def answers(calls):
    world = World()
    reader = Reader(calls)
    told = []
    while reader.more():
        answer = answer_call(world, reader)
        told.append(len(answer))
        told.extend(answer)
    return told
