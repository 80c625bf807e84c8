"""The syntax of point 46 told once more: a test of whole texts, and a search for texts that begin in a given way."""

import re

NUMBER = r"(?:0|[1-9][0-9]{0,3})"
WORD = "[a-z]{1,8}"
ENTRY = "(?:-|[a-z]{1,3})"
STEP = f"{NUMBER}:{NUMBER}:{NUMBER}"
LIST = f"{NUMBER}(?:,{NUMBER})*"

# A letter for each kind of line.
LINES = {
    "c": f"core {WORD}(?: {NUMBER}){{0,2}}",
    "s": f"supply (?:{NUMBER} {LIST}(?: {STEP})+|share {NUMBER} {NUMBER}|always)",
    "h": f"choice {WORD}(?: {WORD})*",
    "d": f"door {WORD}",
    "g": f"guard {WORD}",
    "t": "task(?: steady)?",
    "n": f"node {NUMBER}(?: {ENTRY})+",
    "e": f"edge {NUMBER} {NUMBER} {NUMBER}",
    "k": f"taking {LIST}(?: {WORD})*",
    "q": f"queue(?: {NUMBER})*",
}
ORDER = "(?:csh?d?g?(?:tn+e*)*)+(?:kq+)?"

# What may complete a line, and what may complete the lines of a text.
LINE_ENDS = ["", "0", "9999", "0 0", "9999 9999", "0 9999", "1 9999", "2 9999", "0 0 0", "0 0 0:0:0", "0 0:0:0", "0:0:0",
             "a", "-", "0 -", "share 0 0", "always", "steady", "zzz", "zzy", "zzx", "zzw"]
TEXT_ENDS = [["supply always"], ["node 0 -"]] + [["queue"] * count for count in range(4)] + [["supply always", "node 0 -"]]


def kind_of(line):
    for letter, pattern in LINES.items():
        if re.fullmatch(pattern, line):
            return letter
    return "?"


def is_text(lines):
    """Whether these lines keep the syntax."""
    kinds = "".join(kind_of(line) for line in lines)
    if not re.fullmatch(ORDER, kinds):
        return False
    names, paths = [], {}
    last = None
    for line in lines:
        words = line.split(" ")
        if words[0] != "core":
            continue
        path = tuple(int(word) for word in words[2:])
        if not path:
            if words[1] in names or len(names) == 3:
                return False
            names.append(words[1])
        elif not names or words[1] != names[-1] or path <= last or path[:-1] not in paths[words[1]]:
            return False
        paths.setdefault(words[1], []).append(path)
        last = path
    return "k" not in kinds or kinds.count("q") == len(names)


def some_text_begins(lines):
    """Whether some text has these first lines."""
    return any(is_text(lines + end) for end in TEXT_ENDS)


def some_line_begins(lines, words):
    """Whether behind these lines a line can stand that has these first words."""
    begun = " ".join(words)
    ends = LINE_ENDS + core_ends(lines)
    return any(some_text_begins(lines + [begun + " " + end if end else begun]) for end in ends)


def core_ends(lines):
    """What may complete the line of a further core of the last name."""
    cores = [line.split(" ")[1:] for line in lines if line.startswith("core ")]
    if not cores:
        return []
    numbers = ["9999", "9999 9999", cores[-1][-1] + " 9999", " ".join(cores[-1][1:2]) + " 9999"]
    return numbers + [cores[-1][0] + " " + number for number in numbers]


def told_fault(text):
    """The pair (line, word) of what is wrong with the syntax of the text, or None."""
    lines = text.split("\n")
    last = lines.pop()
    if last != "":
        lines.append(last)
    for number in range(1, len(lines) + 1):
        if not some_text_begins(lines[:number]):
            words = lines[number - 1].split(" ")
            for count in range(1, len(words) + 1):
                if not some_line_begins(lines[:number - 1], words[:count]):
                    return number, count
            return number, len(words) + 1
    if not is_text(lines):
        return len(lines) + 1, 1
    if last != "":
        return len(lines), len(last.split(" ")) + 1
    return None
