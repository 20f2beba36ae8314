"""Events and scripts written as texts."""

from effectonce.digits import digits_of
from effectonce.errors import BadText
from effectonce.events import EVENT_PARTS, TEARABLE
from effectonce.reader import Reader

MOST_DIGITS = 400

WHO = ("store", "keeper", "machine")


def who_text(who):
    """Returns the text of one who is in a world."""
    return who[0] if len(who) == 1 else f"{who[0]} {digits_of(who[1])}"


def event_text(event):
    """Returns the text of an event."""
    if event[0] == "torn":
        return f"torn {digits_of(event[2])} {_whole_text(event[1])}"
    return _whole_text(event)


def _whole_text(event):
    texts = [event[0]]
    for k, sort in enumerate(EVENT_PARTS[event[0]]):
        texts.append(_part_text(sort, event[k + 1]))
    return " ".join(texts)


def _part_text(sort, part):
    if sort == "job":
        return part
    return who_text(part) if sort == "who" else digits_of(part)


def script_text(script):
    """Returns the text of a script."""
    return "\n".join([event_text(event) for event in script])


def _reader_of(text):
    # What is no text has no beginning that could be one.
    if not isinstance(text, str):
        raise BadText(0)
    return Reader(text)


def read_event(text):
    """Returns the event that is written so; raises BadText(place) if there is none."""
    reader = _reader_of(text)
    event = _event_from(reader)
    reader.take_end()
    return event


def read_script(text):
    """Returns the list of the events that are written so; raises BadText(place) if there is no such script."""
    reader = _reader_of(text)
    if text == "":
        return []
    script = [_event_from(reader)]
    while reader.sees("\n"):
        reader.take_sign("\n")
        script.append(_event_from(reader))
    reader.take_end()
    return script


def _event_from(reader):
    word = reader.take_one_of(list(EVENT_PARTS) + ["torn"])
    if word != "torn":
        return _whole_from(reader, word)
    reader.take_word(" ")
    keep = reader.take_number(MOST_DIGITS)
    reader.take_word(" ")
    return ("torn", _whole_from(reader, reader.take_one_of(list(TEARABLE))), keep)


def _whole_from(reader, word):
    """Reads what stands behind the word of an event that is not torn."""
    parts = [word]
    for sort in EVENT_PARTS[word]:
        reader.take_word(" ")
        parts.append(_part_from(reader, sort))
    return tuple(parts)


def _part_from(reader, sort):
    if sort == "job":
        return reader.take_name()
    return _who_from(reader) if sort == "who" else reader.take_number(MOST_DIGITS)


def _who_from(reader):
    word = reader.take_one_of(list(WHO))
    if word != "machine":
        return (word,)
    reader.take_word(" ")
    return (word, reader.take_number(MOST_DIGITS))
