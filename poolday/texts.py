"""The bytes of a text, read as lines, words, names and numbers."""

LETTERS = "abcdefghijklmnopqrstuvwxyz"
DIGITS = "0123456789"
# By their bytes, what else stands in a text: a blank, a line feed, and the marks of a bet's sets.
MARKS = {32: " ", 10: "\n", 44: ",", 47: "/"}
STRANGE = "?"
MOST_NAME_BYTES = 12
# The greatest number that any line may hold, a stake of 1,000,000, has 7 digits.
MOST_DIGITS = 7


def sign_of(byte):
    """The sign that a byte stands for; STRANGE for one that stands in no word."""
    if ord("a") <= byte <= ord("z"):
        return LETTERS[byte - ord("a")]
    if ord("0") <= byte <= ord("9"):
        return DIGITS[byte - ord("0")]
    # No name, number, set or fixed word has the strange sign, so the word that it is in is refused.
    return MARKS.get(byte, STRANGE)


def text_of(codes):
    """The text of a list of bytes."""
    return "".join([sign_of(byte) for byte in codes])


def lines_of(text):
    """The words of each line, line by line; None if the last line has no line feed."""
    lines = text.split("\n")
    if lines.pop() != "":
        return None
    # Blanks too many leave empty words, and no word of a line may be empty.
    return [line.split(" ") for line in lines]


def is_name(word):
    """Whether a word is a name."""
    if word == "" or len(word) > MOST_NAME_BYTES:
        return False
    if word[0] not in LETTERS:
        return False
    return all([sign in LETTERS or sign in DIGITS for sign in word])


def number_of(word):
    """The number that a word is; -1, which is below every limit, if it is none."""
    # Python refuses to read very long numbers, and they are above every limit anyway.
    if len(word) > MOST_DIGITS:
        return -1
    if not word.isdigit():
        return -1
    if word[0] == "0" and word != "0":
        return -1
    return int(word)
