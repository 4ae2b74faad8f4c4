"""From bytes to lines and words, and what is formed as a name or a number."""

NAME_SIGNS = "0123456789abcdefghijklmnopqrstuvwxyz"
OTHER_SIGNS = " -\n"
# It stands for each byte that no formed line has.
WRONG_SIGN = "?"
LONGEST_NAME = 12
FARTHEST = 1048576
MOST_DIGITS = 7


def signs_of(text):
    signs = dict([(ord(sign), sign) for sign in NAME_SIGNS + OTHER_SIGNS])
    return "".join([signs.get(byte, WRONG_SIGN) for byte in text])


def words_of(line):
    return line.split(" ")


def is_name(word):
    return 1 <= len(word) <= LONGEST_NAME and all([sign in NAME_SIGNS for sign in word])


def is_number(word):
    digits = word[1:] if word.startswith("-") else word
    # The length is asked first, as Python's int refuses very long numbers.
    if not digits.isdigit() or len(digits) > MOST_DIGITS:
        return False
    if digits.startswith("0") and word != "0":
        return False
    return int(digits) <= FARTHEST


def numbers_of(words):
    if not all([is_number(word) for word in words]):
        return None
    return [int(word) for word in words]


def pair_of(words):
    numbers = numbers_of(words)
    if numbers is None or len(numbers) != 2:
        return None
    return (numbers[0], numbers[1])


def places_of(numbers):
    return [(numbers[k], numbers[k + 1]) for k in range(0, len(numbers), 2)]
