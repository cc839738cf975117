"""The bytes of a form, and the form of bytes."""

from gameworth.refusals import NoGame
from gameworth.table import LEFT, MOST_PARTS, RIGHT, Table

FIRST_BYTE = 0x47


def two_bytes(number):
    return [number & 255, number >> 8]


# The parts of a form as they're come to first. What waits is looked at last first, so that all that an option leads to
# comes before the next option.
def parts_in_turn(form):
    parts = []
    seen = 0
    waiting = [form]
    while len(waiting) > 0:
        part = waiting.pop()
        if not part.bit & seen:
            seen |= part.bit
            parts.append(part)
            waiting.extend(list(reversed(part.rows[LEFT] + part.rows[RIGHT])))
    return parts


def bytes_of(form):
    parts = parts_in_turn(form)
    numbers = {}
    for number, part in enumerate(parts):
        numbers[part.bit] = number
    text = [FIRST_BYTE] + two_bytes(len(parts))
    for part in parts:
        text.extend(two_bytes(len(part.rows[LEFT])))
        text.extend(two_bytes(len(part.rows[RIGHT])))
        for option in part.rows[LEFT] + part.rows[RIGHT]:
            text.extend(two_bytes(numbers[option.bit]))
    return text


# All that follows the first byte is in pairs of bytes.
def numbers_of(text):
    if len(text) < 3 or len(text) % 2 == 0 or text[0] != FIRST_BYTE:
        raise NoGame()
    return [text[place] + 256 * text[place + 1] for place in range(1, len(text), 2)]


# For each part that a text tells of, left's row and right's, options by their numbers.
# A row that the text is too short for ends behind the text, which is found at the latest at the end.
def rows_of(text):
    numbers = numbers_of(text)
    if numbers[0] > MOST_PARTS:
        raise NoGame()
    rows = []
    place = 1
    for part in range(numbers[0]):
        if place + 2 > len(numbers):
            raise NoGame()
        middle = place + 2 + numbers[place]
        end = middle + numbers[place + 1]
        rows.append((numbers[place + 2:middle], numbers[middle:end]))
        place = end
    if place != len(numbers) or len(rows) == 0:
        raise NoGame()
    return rows


# The numbers of the parts, each behind all its options'. Parts in a ring never get their turn, nor those that lead to
# one, or to a part that there isn't.
def options_first(rows):
    done = {}
    while len(done) < len(rows):
        ready = [number for number in range(len(rows)) if number not in done and all_done(rows[number], done)]
        if len(ready) == 0:
            raise NoGame()
        for number in ready:
            done[number] = True
    return list(done)


def all_done(rows_of_part, done):
    return all([option in done for option in rows_of_part[LEFT] + rows_of_part[RIGHT]])


def form_of_rows(table, rows, turns):
    forms = {}
    for number in turns:
        lefts = [forms[option] for option in rows[number][LEFT]]
        rights = [forms[option] for option in rows[number][RIGHT]]
        forms[number] = table.form_of(lefts, rights)
    return forms[0]


# The form whose bytes the text is; it is one's if the form of what it tells has just these bytes.
# That's found in a table by itself, with room for all options that so many parts can have, so that NoRoom is raised
# only of a text that is a form's.
def form_of_text(table, text):
    rows = rows_of(text)
    turns = options_first(rows)
    apart = Table(2 * MOST_PARTS * MOST_PARTS)
    if bytes_of(form_of_rows(apart, rows, turns)) != text:
        raise NoGame()
    return form_of_rows(table, rows, turns)
