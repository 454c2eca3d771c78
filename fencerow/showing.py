"""Programs and rows shown as texts."""


def shown(program):
    """The program's text, without anything that reading would leave out."""
    return "\n".join(shown_lines(program))


def shown_lines(program):
    """The lines of the program's text."""
    words = ["cells"]
    for cell in program.cells:
        words.extend(cell)
    lines = [row_text(words)]
    for rows in program.threads:
        lines.append("thread")
        lines.extend([row_text(row) for row in rows])
    return lines


def row_text(row):
    """The row's text, one blank between its words."""
    return " ".join([str(part) for part in row])
