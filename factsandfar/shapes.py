"""The helper of the package: forms that several modules test, and copies."""

LETTERS = "abcdefghijklmnopqrstuvwxyz"
LETTERS_AND_DIGITS = "abcdefghijklmnopqrstuvwxyz0123456789"
MOST_CHARACTERS = 8


def consists_of(candidate, characters):
    if not isinstance(candidate, str) or not 1 <= len(candidate) <= MOST_CHARACTERS:
        return False
    return all([character in characters for character in candidate])


def is_word(candidate):
    return consists_of(candidate, LETTERS)


def is_value(candidate):
    return consists_of(candidate, LETTERS_AND_DIGITS)


def is_integer(candidate):
    return isinstance(candidate, int) and not isinstance(candidate, bool)


def is_index(candidate, count):
    return is_integer(candidate) and 0 <= candidate < count


def tag_of(candidate, forms):
    """The first item of a tuple that has one of the forms (tag, length), or None for any other value."""
    if not isinstance(candidate, tuple) or len(candidate) == 0:
        return None
    tag = candidate[0]
    # Items of unknown kinds may define their own ==, so only strings are compared.
    if isinstance(tag, str) and (tag, len(candidate)) in forms:
        return tag
    return None


def copied(value):
    """A copy that shares no list and no dict with the value."""
    if isinstance(value, list):
        return [copied(item) for item in value]
    if isinstance(value, tuple):
        return tuple([copied(item) for item in value])
    if isinstance(value, dict):
        return {key: copied(value[key]) for key in value}
    return value


def numbered_word(number):
    """A word for each number, a different one for each."""
    word = LETTERS[number % len(LETTERS)]
    while number >= len(LETTERS):
        number = number // len(LETTERS)
        word = word + LETTERS[number % len(LETTERS)]
    return word


def unused_word(used):
    number = 0
    while numbered_word(number) in used:
        number += 1
    return numbered_word(number)
