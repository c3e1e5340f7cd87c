"""Summaries as texts: a line with the count, and one for each entry."""

from shortranks.errors import InvalidText
from shortranks.summaries import GREATEST_COUNT, GREATEST_VALUE, MOST_ENTRIES, Summary, check_summary

# 10 ** 30 has so many. Longer words are not given to int, which refuses very long ones.
MOST_DIGITS = 31


def write_summary(summary):
    """Give the text of a summary."""
    check_summary(summary)
    lines = [f"count {summary.many}"]
    lines.extend([f"{value} {low} {high}" for value, low, high in summary.entries])
    return "\n".join(lines)


def read_summary(text):
    """Give the summary of a text."""
    lines = text.split("\n")
    many = _read_count(_words(lines[0]))
    entries = []
    least = -GREATEST_VALUE
    for line, written in enumerate(lines[1:], start=2):
        if len(entries) == MOST_ENTRIES:
            raise InvalidText(line, 1)
        entry = _read_entry(line, _words(written), least, many)
        entries.append(entry)
        least = entry[0]
    return Summary(many, tuple(entries))


def _words(line):
    # Only spaces part words; a tab or another blank is a character of a word.
    return [word for word in line.split(" ") if word]


def _read_count(words):
    if words[:1] != ["count"]:
        raise InvalidText(1, 1)
    many = _number_at(1, words, 2, 1, GREATEST_COUNT)
    _check_end(1, words, 2)
    return many


def _read_entry(line, words, least, many):
    value = _number_at(line, words, 1, least, GREATEST_VALUE)
    low = _number_at(line, words, 2, 1, many)
    high = _number_at(line, words, 3, low, many)
    _check_end(line, words, 3)
    return value, low, high


def _number_at(line, words, word, least, greatest):
    number = _number(words[word - 1]) if word <= len(words) else None
    if number is None or not least <= number <= greatest:
        raise InvalidText(line, word)
    return number


def _check_end(line, words, last):
    if len(words) > last:
        raise InvalidText(line, last + 1)


def _number(word):
    # None for what Python would write in another way, as +1, 01 or -0, and for what is no number.
    digits = word.removeprefix("-")
    if len(digits) > MOST_DIGITS or not digits.isascii() or not digits.isdigit():
        return None
    number = int(word)
    return number if str(number) == word else None
