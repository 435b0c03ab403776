"""The calls: what is asked of a card and a bet, and the answers as lists of whole numbers."""

from betwords.bets import Fault, read_bet
from betwords.cards import read_card
from betwords.counts import count_before
from betwords.rows import count_common, rows_on

NO_NUMBER = -1
TOO_LONG = -2
NO_NTH = -4
FAULTY_BET = -6
NO_CARD = -8
TOO_MANY = -9

MOST_CARD = 65536
MOST_BET = 4096
MOST_LISTED = 4096


def judge(card, bet):
    """0; or -6, the kind of the bet's first fault, its place; or another refusal."""
    refusal, found = look_at(card, bet)
    if found is None:
        return refusal
    return [0]


def means(card, bet):
    """0, the pool's number, how, the stake, how many sets, of each how many numbers and these; or a refusal."""
    refusal, found = look_at(card, bet)
    if found is None:
        return refusal[:1]
    answer = [0, found.pool_number, found.how, found.stake, len(found.sets)]
    for numbers in found.sets:
        answer.append(len(numbers))
        answer.extend(numbers)
    return answer


def many(card, bet):
    """0, of how many combinations the bet is; or a refusal."""
    refusal, found = look_at(card, bet)
    if found is None:
        return refusal[:1]
    return [0, found.many]


def cost(card, bet):
    """0, the stake times how many combinations the bet is of; or a refusal."""
    refusal, found = look_at(card, bet)
    if found is None:
        return refusal[:1]
    return [0, found.cost()]


def has(number, card, bet):
    """0, 1 if the pool's combination with this number is one of the bet's, else 0; or a refusal."""
    refusal, found = look_at(card, bet)
    if found is None:
        return refusal[:1]
    whole = rows_on(found.pool.kind, found.pool.fields)
    if number >= whole.starting(()):
        return [NO_NUMBER]
    return [0, found.rows.starting(whole.row_at(number))]


def nth(i, card, bet):
    """0, the number of the i-th of the bet's combinations, from 0, rising; or a refusal."""
    refusal, found = look_at(card, bet)
    if found is None:
        return refusal[:1]
    if i >= found.many:
        return [NO_NTH]
    return [0, count_before(found.pool.kind, found.pool.fields, found.rows.row_at(i))]


def list_of(card, bet):
    """0, then the numbers of all the bet's combinations, rising; or a refusal."""
    refusal, found = look_at(card, bet)
    if found is None:
        return refusal[:1]
    if found.many > MOST_LISTED:
        return [TOO_MANY]
    pool = found.pool
    return [0] + [count_before(pool.kind, pool.fields, row) for row in found.rows.listed()]


def both(card, bet, other):
    """0, how many combinations both bets have, none if they're of two pools; or a refusal."""
    refusal, found = look_at_all(card, [bet, other])
    if len(found) == 0:
        return refusal[:1]
    first, second = found
    if first.pool_number != second.pool_number:
        return [0, 0]
    return [0, count_common(first.rows, second.rows)]


def look_at(card, bet):
    """The refusal as judge answers it and None, or an empty refusal and the bet."""
    refusal, found = look_at_all(card, [bet])
    if len(found) == 0:
        return refusal, None
    return refusal, found[0]


def look_at_all(card, bets):
    """The refusal as judge answers it and an empty list, or an empty refusal and the bets read."""
    if len(card) > MOST_CARD or any([len(bet) > MOST_BET for bet in bets]):
        return [TOO_LONG], []
    pools = read_card(card)
    if pools is None:
        return [NO_CARD], []
    found = []
    for bet in bets:
        try:
            found.append(read_bet(pools, bet))
        except Fault as fault:
            return [FAULTY_BET, fault.kind, fault.place], []
    return [], found
