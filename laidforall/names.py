"""The characters, names and numbers that written things are made of."""

LONGEST_NAME = 8

LONGEST_NUMBER = 12

PERCENT = 37


def is_letter(char):
    """Tell whether a character (or the empty string) is a letter from a to z."""
    return "a" <= char <= "z"


def is_sign(char):
    """Tell whether a character (or the empty string) is a sign."""
    return " " <= char <= "~" and char not in "[]\\" and ord(char) != PERCENT


def name_end(text, start):
    """Return where the longest name that begins at start ends: start, if none does."""
    end = start
    while end - start < LONGEST_NAME and is_letter(text[end:end + 1]):
        end = end + 1
    return end


def is_name(text):
    """Tell whether a string is a name."""
    return text != "" and name_end(text, 0) == len(text)


def _is_digit(char):
    """Tell whether a character is a digit."""
    return "0" <= char <= "9"


def read_number(word):
    """Return the number that is written so, without leading zeros, or None."""
    if not 1 <= len(word) <= LONGEST_NUMBER or word[0] == "0" and word != "0":
        return None
    if not all([_is_digit(char) for char in word]):
        return None
    return int(word)
