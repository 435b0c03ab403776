"""What the tests share: texts as bytes, a card to bet on, the calls on texts, and combinations one by one."""

import itertools

from betwords import desk

# Interests of the races: 1 to 6; 1, 2, 3, 5 (4 runs with 2); 1, 4 (2, 3 run with 1); 1 to 24; 1, 2.
DAY = (
    "day monday\n"
    "race 6\n"
    "race 5 couple 2 4\n"
    "race 4 couple 1 2 couple 1 3\n"
    "race 24\n"
    "race 2\n"
    "pool win place 1 from 1 take 0 break 1 least 0 unit 1 none refund\n"
    "pool show place 3 from 2 take 400 break 1000 least 10 unit 5 none carry\n"
    "pool exacta order 2 from 3 take 100 break 10 least 20 unit 10 none fewer\n"
    "pool trio order 3 from 2 take 100 break 10 least 0 unit 2 none refund\n"
    "pool four order 4 from 4 take 100 break 10 least 0 unit 1 none refund\n"
    "pool quinella any 2 from 2 take 100 break 10 least 0 unit 1 none refund\n"
    "pool three any 3 from 1 take 100 break 10 least 0 unit 1 none refund\n"
    "pool double legs 2 from 2 take 100 break 10 least 0 unit 100 none carry\n"
    "pool five legs 5 from 1 take 100 break 10 least 0 unit 1 none fewer\n"
)


def codes(text):
    """A text as the list of its bytes."""
    return list(text.encode("latin-1"))


def judge(bet, card=DAY):
    return desk.judge(codes(card), codes(bet))


def means(bet, card=DAY):
    return desk.means(codes(card), codes(bet))


def many(bet, card=DAY):
    return desk.many(codes(card), codes(bet))


def cost(bet, card=DAY):
    return desk.cost(codes(card), codes(bet))


def rows(kind, fields):
    """All combinations of a pool, from the interests that each of their numbers may be."""
    if kind == "order":
        return list(itertools.permutations(fields[0], len(fields)))
    if kind == "any":
        return list(itertools.combinations(fields[0], len(fields)))
    return list(itertools.product(*fields))


def fits(kind, how, row, sets):
    """Whether a combination is one of those that on, box or key with these sets means."""
    if how == "box":
        return set(row) <= set(sets[0])
    if how == "key":
        return set(sets[0]) <= set(row) <= set(sets[0]) | set(sets[1])
    orders = itertools.permutations(row) if kind == "any" else [row]
    return any(all(number in some for number, some in zip(order, sets)) for order in orders)


def numbers(first, last):
    """The set of all numbers from first to last, as a word."""
    return ",".join(str(number) for number in range(first, last + 1))


def big_day(races=6):
    """A card with 24 runners in each race and the largest pools of each kind."""
    pools = [("p4", "place 4"), ("o3", "order 3"), ("o4", "order 4"), ("a3", "any 3"), ("l6", "legs 6")]
    lines = ["day big\n"] + ["race 24\n"] * races
    lines += [f"pool {name} {kind} from 1 take 0 break 1 least 0 unit 1 none refund\n" for name, kind in pools]
    return "".join(lines)
