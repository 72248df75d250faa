"""Bytes as texts, and the form of the words that stand in lines."""

LETTERS = "abcdefghijklmnopqrstuvwxyz"
DIGITS = "0123456789"
LONGEST_NAME = 12
LONGEST_NUMBER = 7
LIMITS = {"seconds": (0, 86400), "room": (1, 1000000), "load": (0, 1000000), "position": (0, 1)}


def sign_of(byte):
    if 97 <= byte <= 122:
        return LETTERS[byte - 97]
    if 48 <= byte <= 57:
        return DIGITS[byte - 48]
    if byte == 32:
        return " "
    if byte == 10:
        return "\n"
    return "?"


# The row's text. A byte that no line can have becomes a "?", so that no word with it fits anything.
def text_of(row):
    return "".join([sign_of(byte) for byte in row])


# The bytes of these lines, each with its line feed.
def bytes_of(lines):
    row = []
    for line in lines:
        row.extend([ord(sign) for sign in line])
        row.append(10)
    return row


# The row's lines and, as the last, what stands behind the last line feed.
def split_lines(row):
    return text_of(row).split("\n")


def is_name(word):
    if not 1 <= len(word) <= LONGEST_NAME:
        return False
    return word[0] in LETTERS and all([sign in LETTERS or sign in DIGITS for sign in word])


# Whether the word is a number in tens without needless noughts (none that a line may have is longer).
def is_number(word):
    if not 1 <= len(word) <= LONGEST_NUMBER:
        return False
    if word[0] == "0" and word != "0":
        return False
    return all([sign in DIGITS for sign in word])


# Whether the word has the form that this part of a line wants.
def fits(part, word):
    if part in LIMITS:
        limits = LIMITS[part]
        return is_number(word) and limits[0] <= int(word) <= limits[1]
    if part == "heat":
        return word in ("warm", "cold")
    return is_name(word)


# Whether the words are a line's first word and then such parts (None: there's no such first word).
def is_formed(parts, words):
    if parts is None or len(words) != len(parts) + 1:
        return False
    return all([fits(part, word) for part, word in zip(parts, words[1:])])
