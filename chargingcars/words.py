"""The words of a day's text, as lists of bytes: names and numbers."""

LINE_END = 10
BLANK = 32
MOST_NAME_BYTES = 12
MOST_DIGITS = 9


def signs(word):
    return [ord(sign) for sign in word]


# There is one part more than marks, so that two marks side by side, or one at an end, are
# seen as an empty part.
def parts(row, mark):
    found = []
    part = []
    for byte in row:
        if byte == mark:
            found.append(part)
            part = []
        else:
            part.append(byte)
    found.append(part)
    return found


def is_digit(byte):
    return ord("0") <= byte and byte <= ord("9")


def is_letter(byte):
    return ord("a") <= byte and byte <= ord("z")


def is_name(word):
    if len(word) == 0 or len(word) > MOST_NAME_BYTES or not is_letter(word[0]):
        return False
    return all([is_letter(byte) or is_digit(byte) for byte in word])


def is_number(word):
    if len(word) == 0 or len(word) > MOST_DIGITS:
        return False
    has_needless_nought = len(word) > 1 and word[0] == ord("0")
    return not has_needless_nought and all([is_digit(byte) for byte in word])


def number_of(word):
    number = 0
    for byte in word:
        number = 10 * number + byte - ord("0")
    return number


def is_number_within(word, least, most):
    return is_number(word) and least <= number_of(word) and number_of(word) <= most


def digits(number):
    return signs(str(number))


def line_of(words):
    line = list(words[0])
    for word in words[1:]:
        line.append(BLANK)
        line.extend(word)
    line.append(LINE_END)
    return line
