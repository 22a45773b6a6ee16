"""The calls on one object, handed in as one list of whole numbers, and what they answer, as another."""

from signsumsdesk.asking import fits, look, may, may_all, nth, product_set, spare, spares, state, sum_set, ways, why
from signsumsdesk.desk import Desk
from signsumsdesk.reading import ALL, ALLOW, BEGIN, CHANGE, DET, DROP, EQ, FITS, LOOK, MAY, MINOR, NTH, PRODUCT
from signsumsdesk.reading import SOLUTION, SOLVED, SPARE, SPARES, SUM, TERM, TURN, WAYS, WHY
from signsumsdesk.reading import Reader, take_given
from signsumsdesk.refusals import BEFORE_BEGIN
from signsumsdesk.shaping import allow, begin, change, drop, eq, turn
from signsumsdesk.squares import det, minor, solution, solved, term


def shape(desk, call, given):
    """What a call answers that shapes an object that has begun."""
    if call == EQ:
        return eq(desk, given)
    if call == DROP:
        return drop(desk, given[0])
    if call == CHANGE:
        return change(desk, given[0], given[1], given[2])
    if call == ALLOW:
        return allow(desk, given[0], given[1])
    return turn(desk, given[0])


def ask(desk, call, given):
    """What a call answers that asks which signs there may be, all equations together."""
    if call == SUM:
        return sum_set(given[0], given[1])
    if call == PRODUCT:
        return product_set(given[0], given[1])
    if call == MAY:
        return may(desk, given[0])
    if call == ALL:
        return may_all(desk)
    if call == WAYS:
        return ways(desk)
    if call == NTH:
        return nth(desk, given[0])
    if call == FITS:
        return fits(desk, given)
    if call == WHY:
        return why(desk, given)
    if call == SPARE:
        return spare(desk, given[0])
    return spares(desk)


def ask_square(desk, call, given):
    """What a call answers that asks a square table."""
    if call == DET:
        return det(desk)
    if call == TERM:
        return term(desk)
    if call == MINOR:
        return minor(desk, given[0], given[1])
    if call == SOLVED:
        return solved(desk, given[0])
    return solution(desk)


def show(desk, call, given):
    """What a call answers that shows what the object has."""
    if call == LOOK:
        return look(desk, given[0])
    return state(desk)


def answer(desk, call, given):
    """The numbers that one call answers."""
    if call == BEGIN:
        return begin(desk, given[0])
    if not desk.has_begun():
        return [BEFORE_BEGIN]
    if call <= TURN:
        return shape(desk, call, given)
    if call <= SPARES:
        return ask(desk, call, given)
    if call <= SOLUTION:
        return ask_square(desk, call, given)
    return show(desk, call, given)


def answers(calls):
    """For each call, in order, how many numbers it answers, then these."""
    desk = Desk()
    reader = Reader(calls)
    told = []
    while reader.has_more():
        call = reader.take()
        numbers = answer(desk, call, take_given(reader, call))
        told.append(len(numbers))
        told.extend(numbers)
    return told
