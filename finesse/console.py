"""A console: a text of commands, which read the lines noted before them as a record."""

from finesse.cards import card_text, count_cards
from finesse.errors import InvalidLine
from finesse.forced import best_cards, share
from finesse.lines import told_lines
from finesse.par import par, table_of
from finesse.records import Record

NOTED_WORDS = ("deck", "deal", "dealer", "vulnerable", "call", "put")
NO_PLAY = "no play"


def run_console(text):
    """Return the report of the commands of a text; raise InvalidLine if one is wrong."""
    noted = []
    report = []
    for number, line in told_lines(text):
        word = line.split(" ")[0]
        if word == "deck":
            noted = []
        if word in NOTED_WORDS:
            noted.append(line)
        else:
            report += _report_of(number, line, noted)
    return "".join([line + "\n" for line in report])


def _report_of(number, line, noted):
    """Return the lines that a command reports; raise InvalidLine if it cannot."""
    if line not in COMMANDS:
        raise InvalidLine(number)
    try:
        record = Record("\n".join(noted))
    except InvalidLine:
        raise InvalidLine(number) from None
    command = COMMANDS[line]
    return command(record)


def _report_result(record):
    points = record.result()
    if points is None:
        return ["open"]
    return [f"score {points}"]


def _report_turn(record):
    auction, play = record.auction(), record.play()
    if not auction.is_over():
        return [f"call {auction.turn()}"]
    if play is None or play.is_over():
        return ["finished"]
    return [f"put {play.turn()}"]


def _report_share(record):
    play = record.play()
    if play is None:
        return [NO_PLAY]
    return [f"share {share(play, 0)} {share(play, 1)}"]


def _report_best(record):
    play = record.play()
    if play is None:
        return [NO_PLAY]
    words = ["best"] + [card_text(record.deck(), card) for card in best_cards(play)]
    return [" ".join(words)]


def _report_table(record):
    table = table_of(record.deck(), record.hands())
    return [" ".join([str(tricks) for tricks in row]) for row in table]


def _report_par(record):
    table = table_of(record.deck(), record.hands())
    size = count_cards(record.hands()[0])
    return [f"par {par(table, size, record.dealer(), record.vulnerable())}"]


COMMANDS = {
    "result": _report_result, "turn": _report_turn, "share": _report_share,
    "best": _report_best, "table": _report_table, "par": _report_par,
}
