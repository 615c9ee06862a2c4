"""Calls by name, answers call by call, and a plain second reckoning to hold the program against."""

from handsback.desks import answers

GREATEST = 2 ** 64 - 1
MOST_LABEL = 10 ** 9

# How often each call comes in a made list, by the calls' numbers.
FIRST_SIX = (2, 2, 2, 2, 3, 3, 4, 4, 5, 5, 5, 6, 6, 6)
ALL_BUT_BEGIN = FIRST_SIX + (2, 2, 7, 8, 8, 8, 8, 9, 10, 11, 12)
THAT_SHARE = (2, 2, 2, 2, 2, 3, 4, 5, 5, 6, 6, 8, 8, 8, 8, 9)


def begin(desks):
    return [1, desks]


def move(desk, thing, under, label=0):
    return [2, desk, thing, under, label]


def back(desk, deed):
    return [3, desk, deed]


def again(desk, deed):
    return [4, desk, deed]


def undo(desk):
    return [5, desk]


def redo(desk):
    return [6, desk]


def would(desk, deed):
    return [7, desk, deed]


def tell(deed, desk):
    return [8, deed, desk]


def meet(desk, other):
    return [9, desk, other]


def tree(desk):
    return [10, desk]


def deeds(desk):
    return [11, desk]


def same(desk, other):
    return [12, desk, other]


def flat(calls):
    return [number for call in calls for number in call]


def split(told):
    """The answers call by call; fails unless the counts fit to the end."""
    rows = []
    place = 0
    while place < len(told):
        size = told[place]
        row = told[place + 1:place + 1 + size]
        if size < 1 or len(row) != size:
            raise AssertionError(f"counts don't fit: {told}")
        rows.append(row)
        place += 1 + size
    return rows


def ask(*calls):
    """What each call is told; only lists that may be handed in are tried."""
    handed = flat(calls)
    if len(calls) > 200 or len(handed) > 1000:
        raise AssertionError(f"{len(calls)} calls with {len(handed)} numbers are more than may be handed in")
    rows = split(answers(handed))
    if len(rows) != len(calls):
        raise AssertionError(f"{len(calls)} calls, {len(rows)} answers")
    return rows


def last(*calls):
    return ask(*calls)[-1]


class PlainTree:
    """A tree as paths from the top: what is done is done to the paths of all that goes along."""

    def __init__(self, moves=()):
        self.paths = {0: [0], 1: [1]}
        self.labels = {}
        for thing, under, label in moves:
            self.put(thing, under, label)

    def put(self, thing, under, label):
        """Tells what comes of it."""
        if under not in self.paths:
            return 2
        if thing in self.paths[under]:
            return 3
        old = self.paths.get(thing, [thing])
        new = self.paths[under] + [thing]
        self.paths[thing] = new
        self.labels[thing] = label
        for other, path in list(self.paths.items()):
            if other != thing and path[:len(old)] == old:
                self.paths[other] = new + path[len(old):]
        return 1

    def places(self):
        return {thing: (self.paths[thing][-2], label) for thing, label in self.labels.items()}

    def told(self):
        """What the call tree answers: paths in their order are the things in theirs."""
        paths = sorted(path for path in self.paths.values() if path[0] == 0 and len(path) > 1)
        return [len(paths)] + flat([path[-1], len(path) - 1, self.labels[path[-1]]] for path in paths)


def plain_tree(moves):
    """The tree of (thing, under, label) in a row, as {thing: (under, label)}."""
    return PlainTree(moves).places()


def apart(before, after):
    """The things that are elsewhere in one of these than in the other."""
    return sorted(thing for thing in {*before, *after} if before.get(thing) != after.get(thing))


class Reckoning:
    """All twelve calls once more, straight from the words: nothing is kept but deeds and who knows them."""

    def __init__(self, desks=1):
        self.deeds = []
        self.knows = [set() for desk in range(desks)]

    def stamp(self, number):
        return self.deeds[number]["stamp"]

    def known(self, desk, kind, own=False):
        """The numbers of the deeds of this kind that the desk knows, the earliest stamp first."""
        numbers = [number for number in self.knows[desk] if self.deeds[number]["kind"] == kind]
        if own:
            numbers = [number for number in numbers if self.stamp(number)[1] == desk]
        return sorted(numbers, key=self.stamp)

    def holds(self, desk, move_number):
        turns = [number for number in self.knows[desk] if self.deeds[number].get("of") == move_number]
        return not turns or self.deeds[max(turns, key=self.stamp)]["kind"] == "again"

    def standing(self, desk):
        return [number for number in self.known(desk, "move") if self.holds(desk, number)]

    def tree(self, desk, without=None):
        return PlainTree(self.deeds[number]["put"] for number in self.standing(desk) if number != without)

    def add(self, desk, **deed):
        count = 1 + max((self.stamp(number)[0] for number in self.knows[desk]), default=0)
        self.deeds.append({"stamp": (count, desk), **deed})
        self.knows[desk].add(len(self.deeds) - 1)

    def answer(self, call):
        kind, given = call[0], call[1:]
        if kind == 1:
            if not 1 <= given[0] <= 8:
                return [-1]
            self.__init__(given[0])
            return [0]
        if self.lacks(kind, given):
            return [-2]
        names = {2: self.move, 3: self.turn, 4: self.turn, 5: self.turn, 6: self.turn, 7: self.would, 8: self.tell,
                 9: self.meet, 10: self.show_tree, 11: self.show_deeds, 12: self.same}
        return names[kind](kind, *given)

    def lacks(self, kind, given):
        desks = given if kind in (9, 12) else given[1:] if kind == 8 else given[:1]
        return any(desk >= len(self.knows) for desk in desks) or (kind == 8 and given[0] >= len(self.deeds))

    def move(self, kind, desk, thing, under, label):
        if not 2 <= thing <= 63 or under > 63 or label > MOST_LABEL:
            return [-1]
        if len(self.deeds) == 120:
            return [-5]
        outcome = self.tree(desk).put(thing, under, label)
        self.add(desk, kind="move", put=(thing, under, label))
        return [len(self.deeds) - 1, outcome]

    def chosen(self, kind, desk, given):
        """The number of the move that is meant, or None."""
        own = self.known(desk, "move", own=True)
        if kind == 5:
            standing = [number for number in own if self.holds(desk, number)]
            return standing[-1] if standing else None
        if kind == 6:
            taken = [number for number in self.known(desk, "back", own=True)
                     if not self.holds(desk, self.deeds[number]["of"])]
            shut = taken and any(self.stamp(number) > self.stamp(taken[-1]) for number in own)
            return self.deeds[taken[-1]]["of"] if taken and not shut else None
        return given if given in own else None

    def turn(self, kind, desk, given=None):
        number = self.chosen(kind, desk, given)
        if number is None:
            return [-3]
        if self.holds(desk, number) != (kind in (3, 5)):
            return [-4]
        if len(self.deeds) == 120:
            return [-5]
        before = self.tree(desk).places()
        self.add(desk, kind="back" if kind in (3, 5) else "again", of=number)
        return [number] + apart(before, self.tree(desk).places())

    def would(self, kind, desk, given):
        number = self.chosen(kind, desk, given)
        if number is None:
            return [-3]
        if not self.holds(desk, number):
            return [-4]
        things = apart(self.tree(desk).places(), self.tree(desk, without=number).places())
        return [len(things)] + things

    def tell(self, kind, number, desk):
        self.knows[desk].add(number)
        return [len(self.knows[desk])]

    def meet(self, kind, desk, other):
        both = self.knows[desk] | self.knows[other]
        told = [len(both), len(both - self.knows[desk]), len(both - self.knows[other])]
        self.knows[desk] = set(both)
        self.knows[other] = set(both)
        return told

    def show_tree(self, kind, desk):
        return self.tree(desk).told()

    def show_deeds(self, kind, desk):
        numbers = self.known(desk, "move")
        built = PlainTree()
        rows = [[number, built.put(*self.deeds[number]["put"]) if self.holds(desk, number) else 0]
                for number in numbers]
        return [len(rows)] + flat(rows)

    def same(self, kind, desk, other):
        trees = [self.tree(place).places() for place in (desk, other)]
        return [int(self.knows[desk] == self.knows[other]), int(trees[0] == trees[1])]


def reckon(calls):
    reckoning = Reckoning()
    return [reckoning.answer(call) for call in calls]


def some_move(chance, desk, things=6):
    return move(desk, chance.randint(2, 1 + things), chance.randint(0, 1 + things), chance.randint(0, 2))


def some_call(chance, desks, numbers, kinds=ALL_BUT_BEGIN):
    """One of these calls, at one of so many desks, with a deed's number below so many or just that many."""
    kind = chance.choice(kinds)
    desk = chance.randrange(desks)
    if kind == 2:
        return some_move(chance, desk)
    if kind in (3, 4, 7):
        return [kind, desk, chance.randint(0, numbers)]
    if kind == 8:
        return tell(chance.randint(0, numbers), desk)
    if kind in (9, 12):
        return [kind, desk, chance.randrange(desks)]
    return [kind, desk]


def odd_call(chance):
    """A call whose numbers lie at the edges of what is granted."""
    kind = chance.randint(1, 12)
    desk = chance.choice((0, 1, 7, 8, GREATEST))
    number = chance.choice((0, 1, 2, 119, 120, GREATEST))
    thing, under = chance.choice((0, 1, 2, 63, 64)), chance.choice((0, 1, 2, 63, 64))
    given = {1: [chance.choice((0, 1, 2, 8, 9, GREATEST))],
             2: [desk, thing, under, chance.choice((0, MOST_LABEL, MOST_LABEL + 1))],
             3: [desk, number], 4: [desk, number], 7: [desk, number], 8: [number, desk],
             9: [desk, chance.choice((0, 1, 7, 8))], 12: [desk, chance.choice((0, 1, 7, 8))]}
    return [kind] + given.get(kind, [desk])


def assert_tree(case, calls, desk, expected):
    """That the desk's tree behind the calls is just this one, seen through further calls alone."""
    for thing in range(2, 64):
        if thing in expected:
            under, label = expected[thing]
            # Putting a thing where it is already changes nothing, so nothing is elsewhere behind the undo.
            rows = ask(*calls, move(desk, thing, under, label), undo(desk))
            number = rows[-2][0]
            case.assertEqual(rows[-2:], [[number, 1], [number]], f"thing {thing}")
        else:
            other = 2 if thing != 2 else 3
            case.assertEqual(last(*calls, move(desk, other, thing))[1], 2, f"thing {thing}")
