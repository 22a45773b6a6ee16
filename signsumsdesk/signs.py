"""The calls on one object, handed in as one list of whole numbers, and what they answer, as another."""

from signsumsdesk.asking import may, may_all, nth, product_set, sum_set, ways
from signsumsdesk.desk import Desk
from signsumsdesk.reading import ALL, ALLOW, BEGIN, CHANGE, DROP, EQ, MAY, NTH, PRODUCT, SUM, TURN, WAYS
from signsumsdesk.reading import Reader, take_given
from signsumsdesk.refusals import BEFORE_BEGIN
from signsumsdesk.shaping import allow, begin, change, drop, eq, turn


class NotBuilt(Exception):
    """A call that the document names and that this program does not answer yet."""


def shape(desk, call, given):
    """What a call answers that shapes an object that has begun."""
    if call == EQ:
        return eq(desk, given)
    if call == DROP:
        return drop(desk, given[0])
    if call == CHANGE:
        return change(desk, given[0], given[1], given[2])
    if call == ALLOW:
        return allow(desk, given[0], given[1])
    return turn(desk, given[0])


def ask(desk, call, given):
    """What a call answers that asks an object that has begun."""
    if call == SUM:
        return sum_set(given[0], given[1])
    if call == PRODUCT:
        return product_set(given[0], given[1])
    if call == MAY:
        return may(desk, given[0])
    if call == ALL:
        return may_all(desk)
    if call == WAYS:
        return ways(desk)
    if call == NTH:
        return nth(desk, given[0])
    raise NotBuilt(f"call {call}")


def answer(desk, call, given):
    """The numbers that one call answers."""
    if call == BEGIN:
        return begin(desk, given[0])
    if not desk.has_begun():
        return [BEFORE_BEGIN]
    if call <= TURN:
        return shape(desk, call, given)
    return ask(desk, call, given)


def answers(calls):
    """For each call, in order, how many numbers it answers, then these."""
    desk = Desk()
    reader = Reader(calls)
    told = []
    while reader.has_more():
        call = reader.take()
        numbers = answer(desk, call, take_given(reader, call))
        told.append(len(numbers))
        told.extend(numbers)
    return told
