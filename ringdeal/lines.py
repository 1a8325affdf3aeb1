"""The lines: rows written as texts, and texts read to the rows."""

from ringdeal.errors import NoLine

FIGURES = "0123456789"


def line_of(name, keeper):
    if keeper is None:
        return f"{name} nowhere"
    return f"{name} at {keeper}"


def shown(rows):
    return [line_of(name, keeper) for name, keeper in rows]


# Asked figure by figure, since int would take signs, blanks and the figures of other scripts too.
def is_number(word):
    if word == "" or (word[0] == "0" and word != "0"):
        return False
    return all([sign in FIGURES for sign in word])


def number_of(word):
    if not is_number(word):
        raise NoLine(f"{word!r} is no number")
    return int(word)


def row_of(line):
    # Split at each single blank, so that one too many leaves an empty word, which is no number.
    words = line.split(" ")
    if len(words) == 2 and words[1] == "nowhere":
        return (number_of(words[0]), None)
    if len(words) == 3 and words[1] == "at":
        return (number_of(words[0]), number_of(words[2]))
    raise NoLine(f"{line!r} is no line of a row")


def read(lines):
    rows = []
    for line in lines:
        row = row_of(line)
        if len(rows) > 0 and row[0] <= rows[-1][0]:
            raise NoLine(f"{line!r} isn't behind the name ahead of it")
        rows.append(row)
    return rows
