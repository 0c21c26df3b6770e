"""The tokens of a text."""

from runrelations.faults import Fault

LETTERS = "abcdefghijklmnopqrstuvwxyz"
DIGITS = "0123456789"
SIGNS = "();-"
BLANKS = " \n"

# Stands for every byte that no token has, so that places in the written text stay those of the bytes.
STRANGE = "?"

LONGEST_WORD = 8
LONGEST_NUMBER = 2


class Token:
    """What is said at a place of a text; the text's end says nothing."""

    def __init__(self, place, said):
        self.place = place
        self.said = said


def written_out(text):
    """The bytes of a text as signs, one for each byte."""
    sign_of = {}
    for sign in LETTERS + DIGITS + SIGNS + BLANKS:
        sign_of[ord(sign)] = sign
    return "".join([sign_of.get(byte, STRANGE) for byte in text])


def run_end(written, place, alike):
    """The place behind the longest run of signs among the given ones that begins at a place."""
    end = place
    while end < len(written) and written[end] in alike:
        end += 1
    return end


def run_at(written, place):
    """The longest run of letters or of digits that begins at a place; else the sign that stands there."""
    for alike in (LETTERS, DIGITS):
        end = run_end(written, place, alike)
        if end > place:
            return written[place:end]
    return written[place]


def is_token(run):
    """Whether a run, or a sign by itself, is a token."""
    if run[0] in LETTERS:
        return len(run) <= LONGEST_WORD
    if run[0] in DIGITS:
        return run == "0" or (run[0] != "0" and len(run) <= LONGEST_NUMBER)
    return run in SIGNS


def tokens_of(text):
    """The tokens of a text from left to right, its end behind them; raises Fault 1 at the first that's none."""
    written = written_out(text)
    tokens = []
    place = 0
    while place < len(written):
        if written[place] in BLANKS:
            place += 1
        else:
            run = run_at(written, place)
            if not is_token(run):
                raise Fault(1, place)
            tokens.append(Token(place, run))
            place += len(run)
    tokens.append(Token(len(written), ""))
    return tokens
