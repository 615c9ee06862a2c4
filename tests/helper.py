"""Calls by name, answers call by call, and a plain second reckoning to hold the program against."""

from handsback.desks import answers

GREATEST = 2 ** 64 - 1
MOST_LABEL = 10 ** 9


def begin(desks):
    return [1, desks]


def move(desk, thing, under, label=0):
    return [2, desk, thing, under, label]


def back(desk, deed):
    return [3, desk, deed]


def again(desk, deed):
    return [4, desk, deed]


def undo(desk):
    return [5, desk]


def redo(desk):
    return [6, desk]


def flat(calls):
    return [number for call in calls for number in call]


def split(told):
    """The answers call by call; fails unless the counts fit to the end."""
    rows = []
    place = 0
    while place < len(told):
        size = told[place]
        row = told[place + 1:place + 1 + size]
        if size < 1 or len(row) != size:
            raise AssertionError(f"counts don't fit: {told}")
        rows.append(row)
        place += 1 + size
    return rows


def ask(*calls):
    rows = split(answers(flat(calls)))
    if len(rows) != len(calls):
        raise AssertionError(f"{len(calls)} calls, {len(rows)} answers")
    return rows


def last(*calls):
    return ask(*calls)[-1]


def plain_tree(moves):
    """The tree of (thing, under, label) in a row, as {thing: (under, label)}, by paths from the top."""
    paths = {0: [0], 1: [1]}
    labels = {}
    for thing, under, label in moves:
        if under not in paths or thing in paths[under]:
            continue
        old = paths.get(thing)
        new = paths[under] + [thing]
        paths[thing] = new
        labels[thing] = label
        if old is not None:
            for other in list(paths):
                if other != thing and paths[other][:len(old)] == old:
                    paths[other] = new + paths[other][len(old):]
    return {thing: (paths[thing][-2], labels[thing]) for thing in labels}


def plain_outcome(moves, thing, under):
    tree = plain_tree(moves)
    if under > 1 and under not in tree:
        return 2
    step = under
    while True:
        if step == thing:
            return 3
        if step < 2:
            return 1
        step = tree[step][0]


class Reckoning:
    """The six calls where each desk knows its own deeds alone: a row of moves a desk, crossed out or not."""

    def __init__(self, desks=1):
        self.total = 0
        self.rows = [[] for desk in range(desks)]
        self.taken = [[] for desk in range(desks)]

    def standing(self, desk):
        return [tuple(entry["put"]) for entry in self.rows[desk] if entry["holds"]]

    def entry(self, desk, number):
        for entry in self.rows[desk]:
            if entry["number"] == number:
                return entry
        return None

    def answer(self, call):
        if call[0] == 1:
            if not 1 <= call[1] <= 8:
                return [-1]
            self.__init__(call[1])
            return [0]
        desk = call[1]
        if desk >= len(self.rows):
            return [-2]
        if call[0] == 2:
            return self.answer_move(desk, *call[2:])
        entry = self.chosen(call[0], desk, call[2:])
        if entry is None:
            return [-3]
        if entry["holds"] != (call[0] in (3, 5)):
            return [-4]
        return self.cross(desk, entry)

    def answer_move(self, desk, thing, under, label):
        if not 2 <= thing <= 63 or under > 63 or label > MOST_LABEL:
            return [-1]
        if self.total == 120:
            return [-5]
        outcome = plain_outcome(self.standing(desk), thing, under)
        number = self.total
        self.total += 1
        self.rows[desk].append({"number": number, "put": (thing, under, label), "holds": True})
        return [number, outcome]

    def chosen(self, kind, desk, given):
        if kind in (3, 4):
            return self.entry(desk, given[0])
        if kind == 5:
            standing = [entry for entry in self.rows[desk] if entry["holds"]]
            return standing[-1] if standing else None
        for time, number in reversed(self.taken[desk]):
            entry = self.entry(desk, number)
            if not entry["holds"]:
                return None if self.rows[desk][-1]["number"] > time else entry
        return None

    def cross(self, desk, entry):
        if self.total == 120:
            return [-5]
        before = plain_tree(self.standing(desk))
        if entry["holds"]:
            self.taken[desk].append((self.total, entry["number"]))
        entry["holds"] = not entry["holds"]
        self.total += 1
        after = plain_tree(self.standing(desk))
        things = set(before) | set(after)
        return [entry["number"]] + sorted(thing for thing in things if before.get(thing) != after.get(thing))


def reckon(calls):
    reckoning = Reckoning()
    return [reckoning.answer(call) for call in calls]


def assert_tree(case, calls, desk, tree):
    """That the desk's tree behind the calls is just this one, seen through further calls alone."""
    for thing in range(2, 64):
        if thing in tree:
            under, label = tree[thing]
            # Putting a thing where it is already changes nothing, so nothing is elsewhere behind the undo.
            rows = ask(*calls, move(desk, thing, under, label), undo(desk))
            number = rows[-2][0]
            case.assertEqual(rows[-2:], [[number, 1], [number]], f"thing {thing}")
        else:
            other = 2 if thing != 2 else 3
            case.assertEqual(last(*calls, move(desk, other, thing))[1], 2, f"thing {thing}")
