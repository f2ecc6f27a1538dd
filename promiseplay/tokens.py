"""The tokens of the text of a property."""

from promiseplay.signals import is_lower, word_end

SINGLE = "!&|()XFGYZOHUWRST,:"
ARROWS = ("->", "<->")

# What no token can be: the end of the text and a character that begins no token.
END = ""
WRONG = " "


def split_tokens(text):
    """The list of pairs of a token and its index.

    The last pair has END and the length of the text, or WRONG and the index of
    the first character that begins no token.
    """
    tokens = []
    at = 0
    while at < len(text):
        if text[at] != " ":
            token = token_at(text, at)
            tokens.append((token, at))
            if token == WRONG:
                return tokens
            at += len(token)
        else:
            at += 1
    tokens.append((END, len(text)))
    return tokens


def token_at(text, at):
    """The token that begins at an index, or WRONG."""
    if text[at] in SINGLE:
        return text[at]
    if is_lower(text[at]):
        return text[at:word_end(text, at)]
    for arrow in ARROWS:
        if text.startswith(arrow, at):
            return arrow
    return WRONG
