"""Log texts: the lines of batches, and the batches of lines."""

from leastshelf.batches import checked_strokes, is_stroke
from leastshelf.errors import BadLog

# no number that stands in a line has more figures
MOST_FIGURES = 9


def stroke_text(stroke):
    """Returns the text of a stroke."""
    a, b, clear, word = stroke
    name = "part"
    if clear:
        name = "put" if word else "stone"
    return " ".join([str(a), str(b), name, *[str(letter) for letter in word]])


def line_of(number, batch):
    """Returns the line of a batch number and a batch."""
    return " ; ".join([str(number), *[stroke_text(stroke) for stroke in batch]])


def log_text(first, batches):
    """Returns the log text of a row of batches, numbered from first; raises BadBatch."""
    plain = [checked_strokes(batch) for batch in batches]
    return "".join([line_of(number, batch) + "\n" for number, batch in enumerate(plain, first)])


def is_figures(text):
    """Returns True if a text is a number from 0 to the greatest one, in figures."""
    return text.isascii() and text.isdigit() and len(text) <= MOST_FIGURES


def read_stroke(text):
    """Returns the stroke of a text, or None if it is no stroke."""
    words = text.split(" ")
    if len(words) < 3 or not all([is_figures(word) for word in [*words[:2], *words[3:]]]):
        return None
    letters = tuple([int(word) for word in words[3:]])
    stroke = (int(words[0]), int(words[1]), words[2] != "part", letters)
    return stroke if is_stroke(stroke) else None


def read_line(line):
    """Returns the tuple of the batch number and the batch of a line, or None if there are none."""
    texts = line.split(" ; ")
    if not is_figures(texts[0]) or int(texts[0]) == 0:
        return None
    number = int(texts[0])
    batch = tuple([read_stroke(text) for text in texts[1:]])
    # needless zeros and wrong names go unseen until the line is written anew
    if None in batch or line_of(number, batch) != line:
        return None
    return (number, batch)


def read_log(text):
    """Returns the list of the tuples (number, batch) of the whole lines of a text; raises BadLog."""
    out = []
    for index, line in enumerate(text.split("\n")[:-1]):
        told = read_line(line)
        if told is None or (out and told[0] != out[-1][0] + 1):
            raise BadLog(index)
        out.append(told)
    return out
