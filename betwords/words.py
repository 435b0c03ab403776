"""What cards and bets have in common: bytes as texts, names and numbers."""

LETTERS = "abcdefghijklmnopqrstuvwxyz"
DIGITS = "0123456789"
MOST_NAME = 12
# No bound of a card or a bet is above 1,000,000.
MOST_DIGITS = 7


def sign_of(code):
    """The sign of a byte; a byte that no card or bet is written with is shown as a question mark."""
    if 97 <= code <= 122:
        return LETTERS[code - 97]
    if 48 <= code <= 57:
        return DIGITS[code - 48]
    if code == 32:
        return " "
    if code == 10:
        return "\n"
    if code == 44:
        return ","
    if code == 47:
        return "/"
    return "?"


def text_of(codes):
    """Bytes as a text with one sign for each, so that places stay the same."""
    return "".join([sign_of(code) for code in codes])


def is_name(word):
    """Whether a word has the form of a name."""
    if not 1 <= len(word) <= MOST_NAME or word[0] not in LETTERS:
        return False
    return all([sign in LETTERS or sign in DIGITS for sign in word])


def number_of(word):
    """The number that a word tells; -1 if it tells none, or one above every bound."""
    # The length is asked first because Python refuses to read very long numbers.
    if len(word) > MOST_DIGITS or not word.isdigit():
        return -1
    if word[0] == "0" and word != "0":
        return -1
    return int(word)
