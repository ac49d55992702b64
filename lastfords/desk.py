"""A desk: requests to a Board, a line each, and their answers."""

from lastfords.board import Board
from lastfords.errors import BadLine, BadText, NoFlood, NoFrame, NoIsland, NoTalk, OtherIslands, Outside, Stuck
from lastfords.talks import Talk, words_text
from lastfords.texts import frame_in, islands_in_line, name_in, pair_in, rule_in


def words_in(text, many):
    """The words of the text, just so many; raises BadText."""
    words = text.split(" ")
    if len(words) != many:
        raise BadText()
    return words


def read_name(text):
    """What a request has that tells a NAME alone; raises BadText."""
    return (name_in(text),)


def read_named_talk(text):
    """The pair of a NAME and a Talk; raises BadText."""
    name, _, told = text.partition(" ")
    return (name_in(name), Talk.of(told))


def read_named_rule(text):
    """The pair of a NAME and a RULE; raises BadText."""
    name, _, told = text.partition(" ")
    return (name_in(name), rule_in(told))


def read_tell(text):
    """The NAMEs of a Talk and of a FLOOD, a PAIR, and whether it was joined; raises BadText."""
    name, flood, word, pair = words_in(text, 4)
    if word not in ("joined", "parted"):
        raise BadText()
    return (name_in(name), name_in(flood), pair_in(pair), word == "joined")


def read_stands(text):
    """The NAMEs of a Talk and of two FLOODS; raises BadText."""
    return tuple([name_in(word) for word in words_in(text, 3)])


def read_shown(text):
    """The NAMEs of a Talk and of a FLOOD, and a PAIR; raises BadText."""
    name, flood, pair = words_in(text, 3)
    return (name_in(name), name_in(flood), pair_in(pair))


def read_frame(text):
    """The NAME of a Talk, and two Talks or None; raises BadText."""
    return frame_in(text)


READERS = {"talk": read_named_talk, "leave": read_name, "lift": read_name, "add": read_named_rule, "tell": read_tell,
           "frame": read_frame, "stands": read_stands, "shown": read_shown, "above": read_name,
           "effect": read_named_talk}


def request_in(line):
    """The request as a tuple of its first word and what it tells; raises BadText."""
    if line in ("doubled", "undo"):
        return (line,)
    word, _, rest = line.partition(" ")
    if word not in READERS:
        raise BadText()
    reader = READERS[word]
    told = reader(rest)
    return (word, *told)


def do_talk(board, name, talk):
    """Does what the request asks for; its answer. So do the next ones, too."""
    board[name] = talk
    return "done"


def do_leave(board, name):
    """The Talk goes."""
    board.leave(name)
    return "done"


def do_lift(board, name):
    """The frame goes."""
    board.lift(name)
    return "done"


def do_add(board, name, rule):
    """The Talk tells the RULE, too."""
    board += (name, rule)
    return "done"


def do_tell(board, name, flood, pair, joined):
    """The FLOOD tells the PAIR, too."""
    board.tell(name, flood, pair, joined)
    return "done"


def do_frame(board, name, low, high):
    """The Talk has this frame."""
    board.frame(name, low, high)
    return "done"


def do_stands(board, name, one, other):
    """How two FLOODS stand."""
    return board.stands(name, one, other)


def do_shown(board, name, flood, pair):
    """What is sure of a PAIR in a FLOOD."""
    return board.shown(name, flood, pair)


def do_above(board, name):
    """The NAMEs of the Talks that say no less."""
    return words_text(board.above(name))


def do_doubled(board):
    """The NAMEs of the Talks that are there already."""
    return words_text(board.doubled())


def do_effect(board, name, talk):
    """What the Talk says beside this one."""
    return board.effect(name, talk)


def do_undo(board):
    """Whether there was a deed to take back."""
    if board.undo():
        return "yes"
    return "no"


DOERS = {"talk": do_talk, "leave": do_leave, "lift": do_lift, "add": do_add, "tell": do_tell, "frame": do_frame,
         "stands": do_stands, "shown": do_shown, "above": do_above, "doubled": do_doubled, "effect": do_effect,
         "undo": do_undo}


def answer(board, request):
    """The answer to the request; raises what the Board raises."""
    word, *given = request
    doer = DOERS[word]
    return doer(board, *given)


def answer_or_refusal(board, request):
    """The answer to the request, or how it is refused."""
    try:
        return answer(board, request)
    except NoTalk:
        return "refused NoTalk"
    except NoIsland:
        return "refused NoIsland"
    except NoFlood:
        return "refused NoFlood"
    except NoFrame:
        return "refused NoFrame"
    except OtherIslands:
        return "refused OtherIslands"
    except Stuck:
        return "refused Stuck"
    except Outside:
        return "refused Outside"


def read_line(reader, number, line):
    """What the reader reads in the line of this number; raises BadLine."""
    try:
        return reader(line)
    except BadText:
        raise BadLine(number) from None


def answers(text):
    """The list of the answers to the requests of the text; raises BadLine."""
    if text == "":
        return []
    first, *others = text.split("\n")
    board = Board(read_line(islands_in_line, 0, first))
    requests = [read_line(request_in, number, line) for number, line in enumerate(others, start=1)]
    return ["done", *[answer_or_refusal(board, request) for request in requests]]
