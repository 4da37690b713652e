"""A text's tokens."""

LETTERS = "abcdefghijklmnopqrstuvwxyz"
DIGITS = "0123456789"
WORD_SIGNS = "abcdefghijklmnopqrstuvwxyz0123456789_"
SIGNS = "-:;{}"
BLANKS = " \n"
KNOWN_SIGNS = "\n #-:;{}abcdefghijklmnopqrstuvwxyz0123456789_"
# It stands for every byte that means nothing outside a remark.
UNKNOWN_SIGN = "?"

LONGEST_WORD = 12
MOST_DIGITS = 7
GREATEST_NUMBER = 1000000

WORD = "word"
NUMBER = "number"
SIGN = "sign"
END = "end"
STRAY = "stray"
MALFORMED = "malformed"


def characters_of(numbers):
    """The bytes as characters, one for one, so that places stay what they are."""
    known = {9: " ", 13: " "}
    for character in KNOWN_SIGNS:
        known[ord(character)] = character
    return "".join([known.get(number, UNKNOWN_SIGN) for number in numbers])


def tokens_of(text):
    """All tokens as (sort, characters, place), also what is none; the last one is the text's end."""
    tokens = []
    place = past_blanks(text, 0)
    while place < len(text):
        end = token_end(text, place)
        token = text[place:end]
        tokens.append((sort_of(token), token, place))
        place = past_blanks(text, end)
    tokens.append((END, "", len(text)))
    return tokens


def past_blanks(text, place):
    """The first place from here on that's neither a blank nor in a remark."""
    while place < len(text):
        if text[place] == "#":
            place = past_remark(text, place)
        elif text[place] in BLANKS:
            place += 1
        else:
            break
    return place


def past_remark(text, place):
    line_end = text.find("\n", place)
    return len(text) if line_end < 0 else line_end


def token_end(text, place):
    if text[place] in LETTERS:
        return past_run(text, place, WORD_SIGNS)
    if text[place] in DIGITS:
        return past_run(text, place, DIGITS)
    return place + 1


def past_run(text, place, signs):
    while place < len(text) and text[place] in signs:
        place += 1
    return place


def sort_of(token):
    if token[0] in LETTERS:
        return WORD if len(token) <= LONGEST_WORD else MALFORMED
    if token[0] in DIGITS:
        return NUMBER if is_number(token) else MALFORMED
    return SIGN if token in SIGNS else STRAY


def is_number(digits):
    if len(digits) > MOST_DIGITS or (digits[0] == "0" and len(digits) > 1):
        return False
    return int(digits) <= GREATEST_NUMBER
