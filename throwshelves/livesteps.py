"""States of live rings after events that nothing bars."""

from throwshelves.bridges import with_bridge
from throwshelves.columns import columns_of, from_columns
from throwshelves.elimination import lead_of, times
from throwshelves.ringplaces import places_from
from throwshelves.turns import turned_row


def stacked(state):
    """The columns of all places, each with the digit of the word behind it: so both change alike."""
    book, word, _ = state
    return [column + (digit,) for column, digit in zip(columns_of(book), word)]


def unstacked(prime, stacks, lost):
    """The state of the columns with the digits of the word behind them, these places being lost."""
    book = from_columns(prime, tuple([stack[:-1] for stack in stacks]))
    return (book, tuple([stack[-1] for stack in stacks]), lost)


def after_loss(state, start, length):
    """The state in which these places are lost, too."""
    book, word, lost = state
    places = places_from(book[1], start, length)
    return (book, word, tuple([place for place in range(book[1]) if place in lost or place in places]))


def after_mending(state, place):
    """The state in which the place is lost no more."""
    book, word, lost = state
    return (book, word, tuple([other for other in lost if other != place]))


def after_bridge(state, place, digit):
    """The state in which the next place has got digit times the place."""
    prime = state[0][0]
    return unstacked(prime, with_bridge(prime, stacked(state), place, digit), state[2])


def after_scaling(state, place, digit):
    """The state in which the place is multiplied by the digit."""
    prime = state[0][0]
    stacks = stacked(state)
    return unstacked(prime, stacks[:place] + [times(prime, digit, stacks[place])] + stacks[place + 1:], state[2])


def after_turn(state, k):
    """The state in which all stands k places further on."""
    prime, size, _ = state[0]
    lost = tuple(sorted([(place + k) % size for place in state[2]]))
    return unstacked(prime, turned_row(stacked(state), k), lost)


def digit_beside(state, column):
    """The digit that the word has at a place with this column, one digit for each row."""
    book, word, _ = state
    # At the lead of a row the word has how many times this row is in it.
    return sum([word[lead_of(row)] * digit for row, digit in zip(book[2], column)]) % book[0]


def after_growth(state, place, column):
    """The state with a place more, that has this column."""
    stacks = stacked(state)
    stack = column + (digit_beside(state, column),)
    lost = tuple([other + 1 if other >= place else other for other in state[2]])
    return unstacked(state[0][0], stacks[:place] + [stack] + stacks[place:], lost)


def after_shrinking(state, place):
    """The state without the place."""
    stacks = stacked(state)
    lost = tuple([other - 1 if other > place else other for other in state[2] if other != place])
    return unstacked(state[0][0], stacks[:place] + stacks[place + 1:], lost)


def state_after(state, event):
    """The state after an event that nothing bars."""
    word = event[0]
    if word == "write":
        return (state[0], event[1], ())
    if word == "lose":
        return after_loss(state, event[1], event[2])
    if word == "mend":
        return after_mending(state, event[1])
    if word == "bridge":
        return after_bridge(state, event[1], event[2])
    if word == "scale":
        return after_scaling(state, event[1], event[2])
    if word == "turn":
        return after_turn(state, event[1])
    if word == "grow":
        return after_growth(state, event[1], event[2])
    return after_shrinking(state, event[1])
