"""The calls on a house, each with its refusals, and answers, which goes through a list of calls."""

from handsback.deeds import holds, move_to_redo, move_to_undo, moves_by_stamps
from handsback.house import House
from handsback.trees import BIN, LAST_THING, do_move, elsewhere, rows_within_root

MOST_DESKS = 8
MOST_LABEL = 1000000000

NOT_GRANTED = -1
NOT_FOUND = -2
NO_MOVE = -3
ALREADY_SO = -4
TOO_MANY_DEEDS = -5

# What deeds tells of a move that doesn't hold, in the place of what comes of it.
NOT_HOLDING = 0

# Of each call by its number: how many numbers it hands over.
SIZES = {1: 1, 2: 4, 3: 2, 4: 2, 5: 1, 6: 1, 7: 2, 8: 2, 9: 2, 10: 1, 11: 1, 12: 2}


def begin(house, desks):
    if desks < 1 or desks > MOST_DESKS:
        return [NOT_GRANTED]
    house.start(desks)
    return [0]


def is_granted(thing, under, label):
    return BIN < thing <= LAST_THING and under <= LAST_THING and label <= MOST_LABEL


def move(house, desk, thing, under, label):
    if not house.has_desk(desk):
        return [NOT_FOUND]
    if not is_granted(thing, under, label):
        return [NOT_GRANTED]
    if house.is_full():
        return [TOO_MANY_DEEDS]
    tree = house.tree_at(desk)
    deed = house.add_move(desk, thing, under, label)
    # Its stamp is later than all that the desk knows, so it is done last.
    return [deed.number, do_move(tree, deed)]


def turn(house, desk, number, to_hold):
    """Takes a move back or does it again, and tells what is elsewhere then."""
    if house.is_full():
        return [TOO_MANY_DEEDS]
    before = house.tree_at(desk)
    house.add_turn(desk, number, to_hold)
    return [number] + elsewhere(before, house.tree_at(desk))


def refusal_to_turn(house, desk, number, to_hold):
    """Why the desk can't take this move back or do it again, however many deeds were done; or None."""
    if not house.has_desk(desk):
        return NOT_FOUND
    if not house.has_own_move(desk, number):
        return NO_MOVE
    if holds(number, house.known_deeds(desk)) == to_hold:
        return ALREADY_SO
    return None


def turn_named(house, desk, number, to_hold):
    """What back and again have in common."""
    refusal = refusal_to_turn(house, desk, number, to_hold)
    if refusal is not None:
        return [refusal]
    return turn(house, desk, number, to_hold)


def undo(house, desk):
    if not house.has_desk(desk):
        return [NOT_FOUND]
    number = move_to_undo(desk, house.known_deeds(desk))
    if number is None:
        return [NO_MOVE]
    return turn(house, desk, number, False)


def redo(house, desk):
    if not house.has_desk(desk):
        return [NOT_FOUND]
    number = move_to_redo(desk, house.known_deeds(desk))
    if number is None:
        return [NO_MOVE]
    return turn(house, desk, number, True)


def would(house, desk, number):
    refusal = refusal_to_turn(house, desk, number, False)
    if refusal is not None:
        return [refusal]
    things = elsewhere(house.tree_at(desk), house.tree_without(desk, number))
    return [len(things)] + things


def tell(house, number, desk):
    if not house.has_deed(number) or not house.has_desk(desk):
        return [NOT_FOUND]
    house.learn(desk, [number])
    return [len(house.known_deeds(desk))]


def meet(house, desk, other):
    if not house.has_desk(desk) or not house.has_desk(other):
        return [NOT_FOUND]
    learned = house.share(desk, other)
    return [len(house.known_deeds(desk))] + learned


def list_tree(house, desk):
    if not house.has_desk(desk):
        return [NOT_FOUND]
    rows = rows_within_root(house.tree_at(desk))
    told = [len(rows)]
    for row in rows:
        told.extend(row)
    return told


def list_moves(house, desk):
    if not house.has_desk(desk):
        return [NOT_FOUND]
    outcomes = house.outcomes_at(desk)
    known = moves_by_stamps(house.known_deeds(desk))
    told = [len(known)]
    for deed in known:
        told.extend([deed.number, outcomes.get(deed.number, NOT_HOLDING)])
    return told


def compare(house, desk, other):
    if not house.has_desk(desk) or not house.has_desk(other):
        return [NOT_FOUND]
    same_deeds = house.knows_alike(desk, other)
    same_tree = house.tree_at(desk) == house.tree_at(other)
    return [1 if same_deeds else 0, 1 if same_tree else 0]


def answer_to(house, call, given):
    if call == 1:
        return begin(house, given[0])
    if call == 2:
        return move(house, given[0], given[1], given[2], given[3])
    if call == 3:
        return turn_named(house, given[0], given[1], False)
    if call == 4:
        return turn_named(house, given[0], given[1], True)
    if call == 5:
        return undo(house, given[0])
    if call == 6:
        return redo(house, given[0])
    if call == 7:
        return would(house, given[0], given[1])
    if call == 8:
        return tell(house, given[0], given[1])
    if call == 9:
        return meet(house, given[0], given[1])
    if call == 10:
        return list_tree(house, given[0])
    if call == 11:
        return list_moves(house, given[0])
    return compare(house, given[0], given[1])


def answers(calls):
    """For each call, in order: how many numbers are answered, then these."""
    house = House()
    told = []
    place = 0
    while place < len(calls):
        call = calls[place]
        behind = place + 1 + SIZES[call]
        answered = answer_to(house, call, calls[place + 1:behind])
        told.append(len(answered))
        told.extend(answered)
        place = behind
    return told
