"""The lines of texts, and those of rows."""

from worldsalone.errors import BadText
from worldsalone.rowforms import ROW_FORMS, first_wrong_in_rows

DIGITS = "0123456789"
REF_LETTERS = {"op": "o", "tmp": "t"}
REF_WORDS = {"o": "op", "t": "tmp"}


class Lines:
    """The lines of a text, each a list of members, read one after the other."""

    def __init__(self, text):
        self._lines = [line.split(" ") for line in text.split("\n")]
        self._at = 0

    def place(self):
        """The number of the next line, or the number of lines behind the last one."""
        return self._at

    def is_over(self):
        """Whether no line is left."""
        return self._at == len(self._lines)

    def members(self):
        """The members of the next line, or an empty list behind the last one."""
        return [] if self.is_over() else list(self._lines[self._at])

    def head(self):
        """The first member of the next line, or an empty string behind the last one."""
        return "" if self.is_over() else self._lines[self._at][0]

    def skip(self):
        """Goes on to the line behind the next one."""
        self._at += 1

    def expect(self, word):
        """Goes on if the next line is this word alone; otherwise the text is refused there."""
        if self.members() != [word]:
            raise BadText(self._at)
        self._at += 1


def number_of(text):
    """The number that a string of digits without leading zeros stands for, or None."""
    if text == "" or (text[0] == "0" and text != "0"):
        return None
    number = 0
    for sign in text:
        digit = DIGITS.find(sign)
        if digit < 0:
            return None
        number = 10 * number + digit
    return number


def ref_text(ref):
    """A ref as it stands in a line."""
    return REF_LETTERS[ref[0]] + str(ref[1])


def ref_of(text):
    """The ref that stands in a line, a wrong one if the text is not that of a ref."""
    return (REF_WORDS.get(text[:1], None), number_of(text[1:]))


def row_line(row):
    """The line of a row, for an if its first one."""
    members = [row[0]]
    for k, kind in enumerate(ROW_FORMS[row[0]], start=1):
        if kind == "ref":
            members.append(ref_text(row[k]))
        elif kind == "args":
            members.extend([ref_text(ref) for ref in row[k]])
        elif kind != "rows":
            members.append(row[k])
    return " ".join(members)


def row_lines(rows):
    """The list of the lines of rows."""
    lines = []
    for row in rows:
        lines.append(row_line(row))
        if row[0] == "if":
            lines.extend(row_lines(row[2]) + ["else"] + row_lines(row[3]) + ["end"])
    return lines


def row_of(members):
    """The row of a line that begins as one, an if without rows inside; a wrong row if the line is not that of a row."""
    row = [members[0]]
    rest = members[1:]
    for kind in ROW_FORMS[members[0]]:
        if kind == "rows":
            row.append(())
        elif kind == "args":
            row.append(tuple([ref_of(text) for text in rest]))
            rest = []
        else:
            row.extend([ref_of(text) if kind == "ref" else text for text in rest[:1]])
            rest = rest[1:]
    # A member too many is left here, and makes the row too long.
    return tuple(row + rest)


def read_row(lines, known):
    """Reads the next line as that of a row; the text is refused there if it is none."""
    row = row_of(lines.members()) if lines.head() in ROW_FORMS else ()
    if first_wrong_in_rows(known, (row,), ()) is not None:
        raise BadText(lines.place())
    lines.skip()
    return row


def read_rows(lines, known):
    """Reads rows up to the first line that is none, which is never a line inside an if."""
    rows = []
    # For each if that is open: its ref, the rows ahead of it and, behind its else, its first rows.
    waiting = []
    while waiting != [] or lines.head() in ROW_FORMS:
        if waiting != [] and lines.head() in ("else", "end"):
            ref, ahead, first = waiting.pop()
            if first is None:
                lines.expect("else")
                waiting.append((ref, ahead, tuple(rows)))
                rows = []
            else:
                lines.expect("end")
                rows = ahead + [("if", ref, first, tuple(rows))]
            continue
        row = read_row(lines, known)
        if row[0] == "if":
            waiting.append((row[1], rows, None))
            rows = []
        else:
            rows.append(row)
    return tuple(rows)
