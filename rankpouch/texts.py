"""Data pouches and rows as texts: a row of text for each tuple, its numbers parted by one blank each."""

from rankpouch.errors import NoText

MOST_FIGURES = 60


def shown(pouch):
    return shown_row([(pouch[0], pouch[1], pouch[2])] + pouch[3])


def read(text):
    rows = read_rows(text, 3)
    head = rows[0]
    return (head[0], head[1], head[2], rows[1:])


def shown_row(row):
    return "\n".join([shown_numbers(numbers) for numbers in row])


def read_row(text):
    if text == "":
        return []
    return read_rows(text, 2)


def shown_numbers(numbers):
    return " ".join([shown_number(number) for number in numbers])


def shown_number(number):
    if number < 0:
        return "-" + shown_number(-number)
    # Python won't write a number of thousands of figures at once, so it is written sixty by sixty.
    parts = []
    while number >= 10 ** 60:
        parts.append(str(number % 10 ** 60).zfill(60))
        number = number // 10 ** 60
    parts.append(str(number))
    return "".join(reversed(parts))


def read_rows(text, many):
    rows = []
    # Python's own splitting into lines would hide a line end behind the last row.
    for at, line in enumerate(text.split("\n")):
        parts = line.split(" ")
        if len(parts) != many or not all([is_number(part) for part in parts]):
            raise NoText(at)
        rows.append(tuple([int(part) for part in parts]))
    return rows


def is_number(part):
    figures = part[1:] if part.startswith("-") else part
    if len(figures) < 1 or len(figures) > MOST_FIGURES:
        return False
    # Python's own reading lets by underscores, a plus and blanks, so each sign is looked at.
    if not all([sign in "0123456789" for sign in figures]):
        return False
    return part == "0" or not figures.startswith("0")
