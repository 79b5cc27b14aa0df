"""The words of texts and lines, and the numbers and fractions that they write."""

from notesttells.ratio import Ratio

# Each part of a fraction that is read has at most 60 digits.
MOST_PART = 10 ** 60 - 1


def words_of(text):
    """The words of a text; two spaces side by side have an empty one between them."""
    return text.split(" ") if text != "" else []


def number_of(word, most):
    """The number up to the most that the word writes, or None."""
    if len(word) > len(str(most)) or not (word.isascii() and word.isdigit()):
        return None
    if word.startswith("0") and word != "0":
        return None
    number = int(word)
    return number if number <= most else None


def ratio_of(word):
    """The Ratio that the word writes, or None."""
    top, bar, bottom = word.removeprefix("-").partition("/")
    num = number_of(top, MOST_PART)
    den = number_of(bottom, MOST_PART) if bar == "/" else 1
    if num is None or den is None or den == 0:
        return None
    found = Ratio(-num if word.startswith("-") else num, den)
    # Each fraction is written in one way only.
    return found if str(found) == word else None
