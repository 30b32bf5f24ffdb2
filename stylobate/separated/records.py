"""Texts with separators, cut into records and fields."""

from stylobate.errors import InvalidText

_MARK = "\""
_LINE_END = "\n"


class Field:
    """A field that was read: its text, where it begins, and whether it stands between quotation marks."""

    def __init__(self, text, offset, marked):
        self.text = text
        self.offset = offset
        self.marked = marked


def _marked_field(text, start, separator):
    """Return the field between quotation marks that begins at a place, and the place where it ends."""
    pieces = []
    at = start + 1
    closed = False
    while not closed:
        end = text.find(_MARK, at)
        if end < 0:
            raise InvalidText(start, "the quotation mark is not closed")
        pieces.append(text[at:end])
        closed = text[end + 1:end + 2] != _MARK
        at = end + 1 if closed else end + 2
    if at < len(text) and text[at] != separator and text[at] != _LINE_END:
        raise InvalidText(at, "a separator is expected")
    return Field(_MARK.join(pieces), start, True), at


def _plain_field(text, start, separator):
    """Return the field without quotation marks that begins at a place, and the place where it ends."""
    at = start
    while at < len(text) and text[at] != separator and text[at] != _LINE_END:
        if text[at] == _MARK:
            raise InvalidText(at, "a quotation mark stands in a field without quotation marks")
        at += 1
    return Field(text[start:at], start, False), at


def _next_record(text, start, separator):
    """Return the fields of the record that begins at a place, and the place behind its end."""
    fields = []
    at = start
    ended = False
    while not ended:
        if text[at:at + 1] == _MARK:
            field, at = _marked_field(text, at, separator)
        else:
            field, at = _plain_field(text, at, separator)
        fields.append(field)
        ended = at == len(text) or text[at] == _LINE_END
        # The separator, or the end of the line, is left behind.
        at += 1
    return fields, at


def split_records(text, separator):
    """Return the list of the records of a text, each a list of fields."""
    records = []
    at = 0
    while at < len(text):
        fields, at = _next_record(text, at, separator)
        records.append(fields)
    return records
