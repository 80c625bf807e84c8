"""Traces: the texts of joint rows."""

from firstbreach.errors import BadText

MAX_ROWS = 3
MAX_COMES = 3
BITS = {"0": 0, "1": 1}
COMES = {".": -1, "0": 0, "1": 1}
RUNS = {".": -1, "0": 0, "1": 1, "2": 2}
ASKS = {".": 0, "+": 1}
# The number of the words of a row; behind them stand only brackets.
ROW_WORDS = 4


def row_text(row):
    """Returns the text of a joint row."""
    return " ".join(row_words(row))


def row_words(row):
    """Returns the list of the words of the text of a joint row."""
    (bit, comes, ran, more), guests = row
    letters = "".join([number_text(node) for node in comes])
    found = [str(bit), letters if letters else "-", number_text(ran), "+" if more == 1 else "."]
    for guest in guests:
        found.extend(["("] + row_words(guest) + [")"])
    return found


def number_text(number):
    """Returns the word of the number of a node or a job, or of -1."""
    return "." if number == -1 else str(number)


def read_row(text):
    """Returns the joint row with this text."""
    return read_line(text, 1)


def read_line(text, line):
    """Returns the joint row of the line with this number."""
    parts = text.split(" ")
    wrong = wrong_word(parts)
    if wrong > 0:
        raise BadText(line, wrong)
    row, _ = row_at(parts, 0)
    return row


def wrong_word(parts):
    """Returns the number of the first wrong word of the text of a joint row, or 0 if there is none."""
    depth = 0
    rows = 1
    place = 0
    for number, word in enumerate(parts, start=1):
        if place < ROW_WORDS:
            if not is_row_word(place, word):
                return number
            place += 1
        elif word == "(" and rows < MAX_ROWS:
            depth += 1
            rows += 1
            place = 0
        elif word == ")" and depth > 0:
            depth -= 1
        else:
            return number
    return 0 if place == ROW_WORDS and depth == 0 else len(parts) + 1


def is_row_word(place, word):
    """Returns whether this is a word that can stand at this place of a row."""
    if place == 0:
        return word in BITS
    if place == 1:
        return word == "-" or (1 <= len(word) <= MAX_COMES and all([letter in COMES for letter in word]))
    if place == 2:
        return word in RUNS
    return word in ASKS


def row_at(parts, at):
    """Returns a pair of the joint row whose words begin at this index and the index behind them."""
    bit, letters, ran, more = parts[at:at + ROW_WORDS]
    comes = () if letters == "-" else tuple([COMES[letter] for letter in letters])
    at += ROW_WORDS
    guests = []
    while at < len(parts) and parts[at] == "(":
        guest, behind = row_at(parts, at + 1)
        guests.append(guest)
        at = behind + 1
    return (((BITS[bit], comes, RUNS[ran], ASKS[more]), tuple(guests)), at)


def write_trace(rows):
    """Returns the trace of a list of joint rows."""
    return as_bytes("".join([row_text(row) + "\n" for row in rows]))


def read_trace(data):
    """Returns the list of the joint rows of a trace."""
    lines = as_text(data).split("\n")
    last = lines.pop()
    rows = [read_line(line, number) for number, line in enumerate(lines, start=1)]
    if last != "":
        read_line(last, len(lines) + 1)
        raise BadText(len(lines) + 1, len(last.split(" ")) + 1)
    return rows


def as_bytes(text):
    """Returns the ASCII bytes of a text."""
    return text.encode("ascii")


def as_text(data):
    """Returns the text of ASCII bytes."""
    return data.decode("ascii")
