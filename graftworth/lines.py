"""Lines of words, and what words can tell."""

FIRST_SIGN = "!"
LAST_SIGN = "~"
FIGURES = "0123456789"
MOST_LETTERS = 12


def words_of(line):
    """The list of the words of a line, or None if it is malformed."""
    words = line.split(" ")
    # Spaces at the ends, next to each other, or alone in an empty line leave an empty word.
    if "" in words or not all([FIRST_SIGN <= sign <= LAST_SIGN for word in words for sign in word]):
        return None
    return words


def is_name(word):
    """Whether a word is 1 to 12 small letters."""
    return 1 <= len(word) <= MOST_LETTERS and all(["a" <= sign <= "z" for sign in word])


def number_in(word):
    """The integer from 0 to 99 whose decimal form is the word, or None."""
    if not 1 <= len(word) <= 2 or not all([sign in FIGURES for sign in word]):
        return None
    if len(word) == 2 and word[0] == "0":
        return None
    return int(word)
