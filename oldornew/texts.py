"""Texts: WORDS, walks, CHARTS and READERS, written and read."""

from oldornew.charts import is_move, is_sizes, is_word
from oldornew.errors import BadLine, BadText
from oldornew.plain import is_ascending, is_name

DIGITS = "0123456789"
NOTHING = "-"


def is_written_number(text):
    """Tell whether the text is a number from 0, without needless zeros in front."""
    if text == "" or not all([sign in DIGITS for sign in text]):
        return False
    return text == "0" or text[0] != "0"


def word_text(word):
    return " ".join([str(value) for value in word])


def walk_text(walk):
    return " ".join(list(walk))


def lots_text(lots):
    if len(lots) == 0:
        return NOTHING
    return "; ".join([walk_text(some) for some in lots])


def chart_text(chart):
    sizes, states, moves = chart
    lines = [word_text(sizes)]
    lines.extend([name + " " + word_text(word) for name, word in states])
    lines.extend([walk_text(move) for move in moves])
    return "\n".join(lines)


def reader_text(reader):
    if len(reader) == 0:
        return NOTHING
    return "\n".join([word_text(word) + ": " + name for word, name in reader])


def numbers_of(words):
    """Return the tuple of the numbers that these texts are; None if one is none."""
    if not all([is_written_number(word) for word in words]):
        return None
    return tuple([int(word) for word in words])


def names_of(words):
    """Return the tuple of these texts; None if one of them is no NAME."""
    if not all([is_name(word) for word in words]):
        return None
    return tuple(words)


def word_read(text):
    word = numbers_of(text.split(" "))
    if word is None:
        raise BadText()
    return word


def walk_read(text):
    walk = names_of(text.split(" "))
    if walk is None:
        raise BadText()
    return walk


def lots_read(text):
    if text == NOTHING:
        return ()
    lots = [names_of(part.split(" ")) for part in text.split("; ")]
    if not all([some is not None and is_ascending(some) for some in lots]):
        raise BadText()
    return tuple(lots)


def chart_read(text):
    lines = text.split("\n")
    sizes = numbers_of(lines[0].split(" "))
    if not is_sizes(sizes):
        raise BadLine(0)
    states = []
    moves = []
    for number, line in enumerate(lines):
        if number > 0 and not is_taken(sizes, states, moves, line.split(" ")):
            raise BadLine(number)
    if len(states) == 0:
        raise BadLine(len(lines))
    return sizes, tuple(states), tuple(moves)


def is_taken(sizes, states, moves, words):
    """Put the state or the move of these words behind the others; tell whether it can stand there."""
    word = numbers_of(words[1:])
    if word is None:
        return is_move_taken(states, moves, tuple(words))
    if len(moves) > 0 or not is_name(words[0]) or not is_word(sizes, word):
        return False
    if len(states) > 0 and not states[-1][0] < words[0]:
        return False
    states.append((words[0], word))
    return True


def is_move_taken(states, moves, move):
    known = {name: True for name, word in states}
    if not is_move(known, move):
        return False
    if len(moves) > 0 and not moves[-1] < move:
        return False
    moves.append(move)
    return True


def reader_read(text):
    if text == NOTHING:
        return ()
    reader = []
    for number, line in enumerate(text.split("\n")):
        pair = pair_of(line)
        if pair is None or (len(reader) > 0 and not reader[-1][0] < pair[0]):
            raise BadLine(number)
        reader.append(pair)
    return tuple(reader)


def pair_of(line):
    """Return the pair of a tuple of numbers and a NAME that the line is; None if it is none."""
    words, _, name = line.partition(": ")
    word = numbers_of(words.split(" "))
    if word is None or not is_name(name):
        return None
    return word, name
