"""Forms: what a handler writes for all records, as one text with marks for what a record gives.

A mark is a tab and a letter. A tab of a text itself is such a mark, too, so that each form can be
read in one way only, and forms can be joined, compared and filled as texts are.
"""

from recordyard.formats import Field

TAB = "\t"
TAB_MARK = "\tt"
NAME_MARK = "\tn"
LEVEL_MARK = "\tl"
LEVEL_NAME_MARK = "\tw"
MESSAGE_MARK = "\tm"
FIELD_MARKS = {"name": "\tn", "levelno": "\tl", "levelname": "\tw", "message": "\tm"}
PARTS_OF_MARKS = {"n": ("name",), "l": ("level",), "m": ("message",)}


def form_of_text(text):
    """The form of a text as it is."""
    return text.replace(TAB, TAB_MARK)


def text_of_form(form):
    """The text of a form in which no mark is left but those for tabs."""
    return form.replace(TAB_MARK, TAB)


def form_of_line(formatter, terminator):
    """The form of what a formatter, or none, makes of a record, and the terminator."""
    pieces = [Field("message")] if formatter is None else formatter.pieces
    forms = []
    for piece in pieces:
        forms.append(FIELD_MARKS[piece.name] if isinstance(piece, Field) else form_of_text(piece))
    return "".join(forms) + form_of_text(terminator)


def form_at_level(form, names, level):
    """A form at one level, or for level 0 at all levels that have no name."""
    if level == 0:
        return form.replace(LEVEL_NAME_MARK, "Level " + LEVEL_MARK)
    name = names.get(level, f"Level {level}")
    return form.replace(LEVEL_NAME_MARK, form_of_text(name)).replace(LEVEL_MARK, str(level))


def filled(forms, mark, text):
    """Forms by streams, with a text in the place of a mark; streams whose form is empty are left out."""
    out = {stream: forms[stream].replace(mark, text) for stream in forms}
    return {stream: out[stream] for stream in out if out[stream] != ""}


def parts_of(form):
    """The texts and marks of a form as they are told to callers; no level's name is among them any more."""
    texts = form.split(TAB)
    parts = []
    text = texts[0]
    for piece in texts[1:]:
        if piece.startswith("t"):
            text = text + TAB + piece[1:]
        else:
            if text != "":
                parts.append(text)
            parts.append(PARTS_OF_MARKS[piece[0]])
            text = piece[1:]
    if text != "":
        parts.append(text)
    return tuple(parts)
