"""Bets: the words of a line, and the first fault in them."""

from betwords.rows import rows_box, rows_key, rows_on
from betwords.words import number_of, text_of

NOT_ENDED = 1
BAD_BYTE = 2
BAD_WORD = 3
BAD_NUMBER = 4
NO_POOL = 5
NO_COMBINATION = 6
TOO_DEAR = 7
MORE_BYTES = 8

LINE_END = 10
BLANK = 32
MOST_STAKE = 1000000
MOST_COST = 2147483647

ON = 0
BOX = 1
WAYS = ("on", "box", "key")


class Fault(Exception):
    """The first fault of a bet: its kind and its place."""

    def __init__(self, kind, place):
        self.kind = kind
        self.place = place


class Bet:
    """A bet without fault: a pool and its number, how (as in WAYS), a stake, sets, the combinations as Rows."""

    def __init__(self, pool, pool_number, how, stake, sets, rows):
        self.pool = pool
        self.pool_number = pool_number
        self.how = how
        self.stake = stake
        self.sets = sets
        self.rows = rows
        self.many = rows.starting(())

    def cost(self):
        """The stake for each combination."""
        return self.stake * self.many


class Words:
    """The words of a line, met one by one; place is that of the word met last."""

    def __init__(self, line):
        self.words = line.split(" ")
        self.met = 0
        self.place = 0
        self.next_place = 0
        self.line_end = len(line)

    def take(self):
        """The next word."""
        if self.met == len(self.words):
            raise Fault(BAD_WORD, self.line_end)
        word = self.words[self.met]
        self.met += 1
        self.place = self.next_place
        self.next_place += len(word) + 1
        return word

    def take_one_of(self, known):
        """The next word, which is to be one of these."""
        word = self.take()
        if word not in known:
            raise Fault(BAD_WORD, self.place)
        return word

    def finish(self):
        """See to it that no word is left."""
        if self.met < len(self.words):
            raise Fault(BAD_WORD, self.next_place)


def read_bet(pools, codes):
    """The bet that a text is; its first fault is raised."""
    if LINE_END not in codes:
        raise Fault(NOT_ENDED, len(codes))
    line_end = codes.index(LINE_END)
    line = codes[:line_end]
    check_line(line)
    bet = read_words(pools, Words(text_of(line)))
    if line_end + 1 < len(codes):
        raise Fault(MORE_BYTES, line_end + 1)
    return bet


def check_line(line):
    """Look for a byte that can't stand where it stands, whatever the words are."""
    if len(line) == 0:
        raise Fault(BAD_BYTE, 0)
    for place, code in enumerate(line):
        if not 32 <= code <= 126:
            raise Fault(BAD_BYTE, place)
        if code == BLANK and (place in (0, len(line) - 1) or line[place - 1] == BLANK):
            raise Fault(BAD_BYTE, place)


def read_words(pools, words):
    """The bet that a line's words are."""
    words.take_one_of(("bet",))
    pool_number = take_pool(pools, words)
    pool = pools[pool_number]
    words.take_one_of(("for",))
    stake = take_stake(words, pool.unit)
    stake_place = words.place
    how = take_how(words, pool)
    how_place = words.place
    sets = take_sets(words, pool, how)
    words.finish()
    bet = Bet(pool, pool_number, how, stake, sets, rows_of(pool, how, sets))
    if bet.many == 0:
        raise Fault(NO_COMBINATION, how_place)
    if bet.cost() > MOST_COST:
        raise Fault(TOO_DEAR, stake_place)
    return bet


def take_pool(pools, words):
    """The number of the pool that the next word names."""
    name = words.take()
    for number, pool in enumerate(pools):
        if pool.name == name:
            return number
    raise Fault(NO_POOL, words.place)


def take_stake(words, unit):
    """The stake that the next word tells."""
    stake = number_of(words.take())
    if not 1 <= stake <= MOST_STAKE or stake % unit != 0:
        raise Fault(BAD_NUMBER, words.place)
    return stake


def take_how(words, pool):
    """Which of the ways to bet the next word tells."""
    if pool.kind in ("order", "any"):
        return WAYS.index(words.take_one_of(WAYS))
    words.take_one_of(("on",))
    return ON


def take_sets(words, pool, how):
    """The sets of a bet."""
    if how == ON:
        return take_on(words, pool.fields)
    size = len(pool.fields)
    if how == BOX:
        return take_box(words, pool.fields[0], size)
    return take_key(words, pool.fields[0], size)


def take_on(words, fields):
    """As many sets as there are fields, with a stroke between them."""
    sets = []
    for field in fields:
        if len(sets) > 0:
            words.take_one_of(("/",))
        sets.append(take_set(words, field))
    return sets


def take_box(words, field, size):
    """The one set of a box."""
    numbers = take_set(words, field)
    if len(numbers) < size:
        raise Fault(BAD_NUMBER, words.place)
    return [numbers]


def take_key(words, field, size):
    """The two sets of a key."""
    bankers = take_set(words, field)
    if len(bankers) > size - 1:
        raise Fault(BAD_NUMBER, words.place)
    words.take_one_of(("with",))
    others = take_set(words, field)
    if any([number in bankers for number in others]) or len(bankers) + len(others) < size:
        raise Fault(BAD_NUMBER, words.place)
    return [bankers, others]


def take_set(words, field):
    """The numbers of the next word, rising and each of the field."""
    numbers = []
    for part in words.take().split(","):
        number = number_of(part)
        if number not in field or (len(numbers) > 0 and number <= numbers[-1]):
            raise Fault(BAD_NUMBER, words.place)
        numbers.append(number)
    return numbers


def rows_of(pool, how, sets):
    """The combinations of a pool that these sets mean."""
    if how == ON:
        return rows_on(pool.kind, sets)
    size = len(pool.fields)
    if how == BOX:
        return rows_box(pool.kind, size, sets[0])
    return rows_key(pool.kind, size, sets[0], sets[1])
