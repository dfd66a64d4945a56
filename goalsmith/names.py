"""Names, the row of texts from which new ones are taken, and whole numbers."""

LETTERS = "abcdefghijklmnopqrstuvwxyz"
WORDS = ("no", "not", "and", "or", "so", "all", "some")
MOST_LETTERS = 8


def is_name(thing):
    """Whether a thing, whatever it is, is a NAME."""
    if not isinstance(thing, str) or not 1 <= len(thing) <= MOST_LETTERS:
        return False
    return thing.isascii() and thing.isalpha() and thing.islower() and thing not in WORDS


def is_whole(thing):
    """Whether a thing, whatever it is, is a whole number."""
    # Python counts True and False among the integers; the document does not.
    return isinstance(thing, int) and not isinstance(thing, bool)


def text_at(place):
    """The text at a place, from 0, of a, b, .. z, aa, ab, .. az, ba, .."""
    text = ""
    left = place + 1
    while left > 0:
        left, letter = divmod(left - 1, len(LETTERS))
        text = LETTERS[letter] + text
    return text


def first_name(barred):
    """The first of a, b, .. z, aa, .. that is a name and no key of a dict."""
    place = 0
    while not is_name(text_at(place)) or text_at(place) in barred:
        place += 1
    return text_at(place)
