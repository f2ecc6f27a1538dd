"""Names of signals."""

RESERVED = ("true", "false", "exists", "forall")


def is_lower(character):
    """Whether a character is one of the letters a to z."""
    return "a" <= character <= "z"


def is_digit(character):
    """Whether a character is one of the digits 0 to 9."""
    return "0" <= character <= "9"


def word_end(text, start):
    """The index behind the word that begins at start: its letters and digits."""
    end = start
    while end < len(text) and (is_lower(text[end]) or is_digit(text[end])):
        end += 1
    return end


def is_name(text):
    """Whether a text is the name of a signal."""
    if text == "" or not is_lower(text[0]) or text in RESERVED:
        return False
    return word_end(text, 0) == len(text)


def part_table(names, chosen):
    """For each letter over some signals the letter over chosen ones in which these have the same values."""
    places = [names.index(name) for name in chosen]
    table = []
    for letter in range(1 << len(names)):
        table.append(sum([((letter >> place) & 1) << k for k, place in enumerate(places)]))
    return table
