"""Cards: the races and pools of a day."""

from betwords.words import is_name, number_of, text_of

MOST_RACES = 16
MOST_POOLS = 64
MOST_COUPLES = 8
MOST_RUNNERS = 24
# Of each kind of pool the least and the greatest k.
SIZES = {"place": (1, 4), "order": (2, 4), "any": (2, 3), "legs": (2, 6)}
# What stands in a pool's line at the places where it's always the same word.
FIXED = ((0, "pool"), (4, "from"), (6, "take"), (8, "break"), (10, "least"), (12, "unit"), (14, "none"))
POOL_WORDS = 16


class Pool:
    """A pool; fields holds, for each number of a combination, the interests it may be."""

    def __init__(self, name, kind, fields, unit):
        self.name = name
        self.kind = kind
        self.fields = fields
        self.unit = unit


def read_card(codes):
    """The pools of a card, in their order; None if the text is no card."""
    text = text_of(codes)
    if not text.endswith("\n"):
        return None
    lines = [line.split(" ") for line in text[:-1].split("\n")]
    if not is_day(lines[0]):
        return None
    behind_races = 1
    while behind_races < len(lines) and lines[behind_races][0] == "race":
        behind_races += 1
    races = [read_race(words) for words in lines[1:behind_races]]
    if not 1 <= len(races) <= MOST_RACES or None in races:
        return None
    return read_pools(lines[behind_races:], races)


def is_day(words):
    """Whether these are the words of a card's first line."""
    return len(words) == 2 and words[0] == "day" and is_name(words[1])


def read_race(words):
    """The interests of a race's line that begins with the word race; None if it's faulty."""
    couples = (len(words) - 2) // 3
    if len(words) != 2 + 3 * couples or couples > MOST_COUPLES:
        return None
    runners = number_of(words[1])
    if not 2 <= runners <= MOST_RUNNERS:
        return None
    firsts = {}
    seconds = {}
    for at in range(2, len(words), 3):
        first = number_of(words[at + 1])
        second = number_of(words[at + 2])
        if words[at] != "couple" or not 1 <= first < second <= runners:
            return None
        if first in seconds or second in firsts or second in seconds:
            return None
        firsts[first] = True
        seconds[second] = True
    return [runner for runner in range(1, runners + 1) if runner not in seconds]


def read_pools(lines, races):
    """The pools of a card's last lines; None if one is faulty or there are too many."""
    if len(lines) > MOST_POOLS:
        return None
    pools = []
    names = {}
    for words in lines:
        pool = read_pool(words, races)
        if pool is None or pool.name in names:
            return None
        names[pool.name] = True
        pools.append(pool)
    return pools


def read_pool(words, races):
    """The pool of a line; None if it's faulty."""
    if not has_pool_form(words) or not are_terms_good(words):
        return None
    kind = words[2]
    size = number_of(words[3])
    bounds = SIZES[kind]
    race = number_of(words[5])
    if not bounds[0] <= size <= bounds[1] or not 1 <= race <= len(races):
        return None
    fields = fields_of(kind, size, race, races)
    if fields is None:
        return None
    return Pool(words[1], kind, fields, number_of(words[13]))


def has_pool_form(words):
    """Whether a pool's line has a name and a kind, and its fixed words where they belong."""
    if len(words) != POOL_WORDS:
        return False
    if not all([words[at] == word for at, word in FIXED]):
        return False
    return is_name(words[1]) and words[2] in SIZES


def are_terms_good(words):
    """Whether take, break, least, unit and none of a pool's line are within their bounds."""
    least = number_of(words[11])
    unit = number_of(words[13])
    if not 0 <= number_of(words[7]) <= 400 or not 1 <= number_of(words[9]) <= 1000:
        return False
    if not 1 <= unit <= 10000 or not (least == 0 or unit <= least <= 2 * unit):
        return False
    if words[15] == "fewer":
        return words[2] != "place"
    return words[15] in ("refund", "carry")


def fields_of(kind, size, race, races):
    """The interests for each number of a pool's combinations; None if the card has too few for it."""
    if kind == "legs":
        if race + size - 1 > len(races):
            return None
        return races[race - 1:race - 1 + size]
    interests = races[race - 1]
    if len(interests) < size:
        return None
    if kind == "place":
        return [interests]
    return [interests for place in range(size)]
