"""A desk: requests to a Board, and the replies to them."""

from oldornew.board import Board
from oldornew.charts import neighbours
from oldornew.counts import is_lonely
from oldornew.errors import BadLine, NoName, NoNumber, NothingDone, NotJoined
from oldornew.plain import is_name
from oldornew.readers import may_tell
from oldornew.right import is_right
from oldornew.texts import NOTHING, is_written_number, walk_text, word_text

DEEDS = ("start", "change", "finish", "undo")
# The requests of one word, and what can stand for LONG.
ALONE = ("finish", "undo", "word", "ends", "left", "near", "rest", "deeds", "lonely")
LONGS = ("0", "1", "2")


def is_request(thing):
    if not isinstance(thing, str):
        return False
    words = thing.split(" ")
    if len(words) != 2:
        return thing in ALONE
    first, last = words
    if first == "start":
        return is_name(last)
    if first == "change":
        return is_written_number(last)
    return first in ("may", "right") and last in LONGS


def replies(chart, name, text):
    board = Board(chart, name)
    lines = text.split("\n") if text != "" else []
    for number, line in enumerate(lines):
        if not is_request(line):
            raise BadLine(number)
    return [reply(board, line.split(" ")) for line in lines]


def reply(board, words):
    """Return the reply of the Board to the request of these words."""
    first = words[0]
    if first in DEEDS:
        return reply_to_deed(board, words)
    if first == "may" or first == "right":
        return reply_over(board, first, int(words[1]))
    return reply_alone(board, first)


def reply_to_deed(board, words):
    try:
        do_deed(board, words)
    except NoName:
        return "refused NoName"
    except NoNumber:
        return "refused NoNumber"
    except NotJoined:
        return "refused NotJoined"
    except NothingDone:
        return "refused NothingDone"
    return "done"


def do_deed(board, words):
    first = words[0]
    if first == "start":
        board.start(words[1])
    elif first == "change":
        board.change(int(words[1]))
    elif first == "finish":
        board.finish()
    else:
        board.undo()


def reply_over(board, first, long):
    if first == "right":
        return yes_or_no(is_right(board.chart(), long))
    return or_none(walk_text(may_tell(board.chart(), long, board.word()) or ()))


def reply_alone(board, first):
    if first == "word":
        return word_text(board.word())
    if first == "ends":
        return walk_text(board.ends())
    if first == "left":
        return or_none(word_text(board.fields_left()))
    if first == "near":
        return or_none(walk_text(neighbours(board.chart(), board.ends()[1])))
    if first == "rest":
        return yes_or_no(board.is_at_rest())
    if first == "lonely":
        return yes_or_no(is_lonely(board.chart(), board.word()))
    return str(board.deeds())


def yes_or_no(holds):
    return "yes" if holds else "no"


def or_none(text):
    """Return the text, or what stands for nothing."""
    return text if text != "" else NOTHING
