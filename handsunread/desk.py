"""A desk: requests in lines of text, done in their order on one Board, and the replies to them."""

from handsunread.board import Board
from handsunread.errors import BadLine, BadText, NoHand, NothingDone, NoWire, Unfit
from handsunread.learn import hears
from handsunread.plants import KINDS, check_hand
from handsunread.polys import is_tone, table_poly
from handsunread.staying import stay, stays
from handsunread.texts import is_figures, lines_of, plant_text, poly_in, poly_text, row_in
from handsunread.ways import way
from handsunread.wires import first_bar

# Requests of one word alone.
PLAIN = ("stay", "poly", "plant", "hand", "undo", "deeds")
# Between which two ROWS of a request its second word stands.
BETWEEN = {"sure": "of", "way": "to"}
TONED = ("stays", "held", "free")
DEEDS = ("lever", "gauge", "cut", "hand", "drop")
MOST_FIGURES = 9


def request_in(line):
    """The request as a tuple that begins with its word; raises BadText for a line that is none."""
    if line in PLAIN:
        return (line,)
    word, _, rest = line.partition(" ")
    if word in BETWEEN:
        ahead, behind = halves(rest, BETWEEN[word])
        return word, row_in(ahead), row_in(behind)
    if word == "hears":
        ahead, behind = halves(rest, "of")
        return word, number_in(ahead), number_in(behind)
    if word in TONED:
        return word, poly_in(rest)
    if word in KINDS:
        hand, _, row = rest.partition(" ")
        return word, number_in(hand), row_in(row)
    if word == "cut":
        return word, wire_in(rest)
    if word == "drop":
        return word, number_in(rest)
    raise BadText()


def halves(text, word):
    """What stands ahead of the word and behind it."""
    parts = text.split(" " + word + " ")
    if len(parts) != 2:
        raise BadText()
    return parts[0], parts[1]


def number_in(text):
    if not is_figures(text) or len(text) > MOST_FIGURES:
        raise BadText()
    return int(text)


def wire_in(text):
    words = text.split(" ")
    if len(words) != 3 or words[1] not in KINDS:
        raise BadText()
    return number_in(words[0]), words[1], number_in(words[2])


def is_request(line):
    try:
        request_in(line)
    except BadText:
        return False
    return True


def requests_in(text):
    """The requests of a text; raises BadLine for the first line that is none."""
    found = []
    for number, line in enumerate(lines_of(text)):
        try:
            found.append(request_in(line))
        except BadText:
            raise BadLine(number)
    return found


def is_fit(plant, request):
    """Whether the ROWS of a request are as long as the PLANT has cells, and its POLY is a TONE."""
    word, many = request[0], len(plant[0])
    if word in BETWEEN:
        return len(request[1]) == many and len(request[2]) == many
    if word in KINDS:
        return len(request[2]) == many
    return word not in TONED or is_tone(request[1])


def yes_no(told):
    return "yes" if told else "no"


def look(plant, request):
    """The reply to a request that changes nothing, but for deeds."""
    word = request[0]
    if word == "sure":
        return yes_no(way(plant, request[2], request[1]) is None)
    if word == "way":
        hands = way(plant, request[1], request[2])
        return "none" if hands is None else " ".join([str(hand) for hand in hands])
    if word == "hears":
        found = hears(plant, request[1])
        check_hand(plant, request[2])
        return yes_no(request[2] in found)
    if word == "stay":
        return poly_text(stay(plant))
    if word == "stays":
        return yes_no(stays(plant, request[1]))
    if word == "poly":
        return poly_text(table_poly(plant[0]))
    if word == "plant":
        return plant_text(plant).replace("\n", ", ")
    free = first_bar(plant, request[1]) is None
    return yes_no(free == (word == "free"))


def answer(board, request):
    """The reply to a request; raises what its function or deed raises."""
    if not is_fit(board.plant(), request):
        raise Unfit()
    if request[0] == "deeds":
        return str(len(board))
    if request[0] == "undo":
        board.undo()
        return "done"
    if request[0] in DEEDS:
        board.do(request)
        return "done"
    return look(board.plant(), request)


def reply(board, request):
    try:
        return answer(board, request)
    except NoHand:
        return "no NoHand"
    except NoWire:
        return "no NoWire"
    except NothingDone:
        return "no NothingDone"
    except Unfit:
        return "no Unfit"


def replies(plant, text):
    board = Board(plant)
    return [reply(board, request) for request in requests_in(text)]


def last_plant(plant, text):
    board = Board(plant)
    for request in requests_in(text):
        reply(board, request)
    return board.plant()
