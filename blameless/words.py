"""Machine words, the words of a text, and numbers."""

WORD_COUNT = 65536
OPERATORS = ("+", "-", "*", "/", "mod", "<", "=")
DIGITS = "0123456789"
MOST_DIGITS = 5


def combine(sign, left, right):
    """Return the value of an operator on two machine words."""
    if sign == "+":
        return (left + right) % WORD_COUNT
    if sign == "-":
        return (left - right) % WORD_COUNT
    if sign == "*":
        return (left * right) % WORD_COUNT
    if sign == "<":
        return 1 if left < right else 0
    if sign == "=":
        return 1 if left == right else 0
    return divided(sign, left, right)


def divided(sign, left, right):
    """Return the value of `/` or `mod`."""
    if right == 0:
        return 0
    if sign == "/":
        return left // right
    return left % right


def split_words(text):
    """Return the list of the words of a text."""
    # The split of an empty text would be one empty word.
    if text == "":
        return []
    return text.split(" ")


def number_of(word):
    """Return the number that a word writes, or None if it is no number."""
    if not is_digits(word):
        return None
    if word[0] == "0" and word != "0":
        return None
    number = int(word)
    return number if number < WORD_COUNT else None


def is_digits(word):
    # Not isdigit: it takes digits of other scripts, too.
    if not 1 <= len(word) <= MOST_DIGITS:
        return False
    return all([letter in DIGITS for letter in word])
