"""The tokens of the language of models."""

from truecourse.errors import BadText
from truecourse.polys import WORDS, is_name
from truecourse.ratios import check_text, digits_end

_DIGITS = "0123456789"
_LETTERS = "abcdefghijklmnopqrstuvwxyzABCDEFGHIJKLMNOPQRSTUVWXYZ"
_SIGNS = "+-*/^()="
_MOST_DIGITS = 20


def _whole_end(text, at, room):
    """The place behind the longest run of at most so many digits without needless zeros."""
    if text[at:at + 1] == "0":
        return at + min(1, room)
    return min(digits_end(text, at), at + room)


def _number_end(text, at):
    """The place behind the longest number that begins at a digit."""
    end = _whole_end(text, at, _MOST_DIGITS)
    room = _MOST_DIGITS - (end - at)
    longest = end
    if text[end:end + 1] == "/" and text[end + 1:end + 2] != "0":
        longest = _whole_end(text, end + 1, room)
    elif text[end:end + 1] == ".":
        longest = min(digits_end(text, end + 1), end + 1 + room)
    # A sign without digits behind it does not belong to the number.
    return end if longest <= end + 1 else longest


def _run_end(text, at):
    """The place behind the run of letters and digits that begins here."""
    end = at
    while end < len(text) and (text[end] in _LETTERS or text[end] in _DIGITS):
        end += 1
    return end


def _token_at(text, at):
    """The kind and the text of the token that begins at a place where something stands."""
    character = text[at]
    if character in _SIGNS:
        return ("sign", character)
    if character in _DIGITS:
        end = _number_end(text, at)
        if _run_end(text, end) > end:
            raise BadText(at)
        return ("number", text[at:end])
    run = text[at:_run_end(text, at)]
    if run in WORDS:
        return ("word", run)
    if is_name(run):
        return ("name", run)
    raise BadText(at)


def _row_tokens(text, begin, end):
    """The tokens of the row from begin to end, its end too."""
    found = []
    at = begin
    while at < end and text[at] != "#":
        if text[at] == " ":
            at += 1
        else:
            kind, token = _token_at(text, at)
            found.append((kind, token, at))
            at += len(token)
    found.append(("end", "", end))
    return found


def tokens_of(text):
    check_text(text)
    found = []
    begin = 0
    for row in text.split("\n"):
        end = begin + len(row)
        found.extend(_row_tokens(text, begin, end))
        begin = end + 1
    return found
