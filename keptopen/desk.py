"""A desk at which a game is kept by rows of text."""

from keptopen.errors import InvalidRow, InvalidText
from keptopen.eventreadings import read_event, read_log
from keptopen.eventtexts import event_line
from keptopen.kinds import is_name
from keptopen.replaying import replayed


class Desk:
    """A desk with a game, at first without one."""

    def __init__(self):
        self._game = None
        self._started = 0
        self._finished = 0

    def say(self, row):
        """The answer to a row."""
        finished = self._finished + 1
        self._started = self._started + 1
        try:
            return self._answer(row)
        finally:
            self._finished = finished

    def counts(self):
        """How many calls of say were started, and how many were finished."""
        return (self._started, self._finished)

    def _answer(self, row):
        """The answer to any value as a row."""
        if not isinstance(row, str):
            raise InvalidRow(row)
        log = log_or_none(row)
        if log is not None and len(log) == 1:
            self._game = replayed(log)
            return "ok"
        answer = None if self._game is None else game_answer(self._game, row)
        if answer is None:
            raise InvalidRow(row)
        return answer


def log_or_none(row):
    """The log that the lines of a row write, None if they write none."""
    try:
        return read_log(row.split("\n"))
    except InvalidText:
        return None


def event_or_none(line):
    """The event that a line writes, None if it writes none."""
    try:
        return read_event(line)
    except InvalidText:
        return None


def game_answer(game, row):
    """The answer of a game to a row, None if it knows none."""
    event = event_or_none(row)
    if event is not None:
        return game.apply(event)
    word, _, rest = row.partition(" ")
    if word == "bars" and event_or_none(rest) is not None:
        return word_of(game.barred(event_or_none(rest)))
    if word == "things" and is_name(rest):
        return words_of(game.things_now(rest))
    return plain_answer(game, row)


def plain_answer(game, row):
    """The answer of a game to a row of one word, None if it knows none."""
    if row == "undo":
        return event_line(game.undo())
    if row == "advice":
        return advice_words(game.advice())
    if row == "filling":
        return words_of([f"{chest}:{thing}" for chest, thing in game.filling_now])
    if row == "log":
        return " / ".join([event_line(event) for event in game]) or "-"
    if row == "broken":
        return words_of(game.broken_now)
    return number_answer(game, row)


def number_answer(game, row):
    """The answer of a game to a row that asks for one word, None if it knows none."""
    if row == "left":
        return word_of(game.left_now)
    if row == "moves":
        return word_of(game.moves_now)
    if row == "events":
        return word_of(len(game))
    if row == "state":
        return game.state()
    return None


def word_of(thing):
    """The word for a number or a name, - for None."""
    return "-" if thing is None else str(thing)


def words_of(things):
    """The words of these things with spaces between, - for no thing."""
    return " ".join([str(thing) for thing in things]) or "-"


def advice_words(advice):
    """The words of an advice: the chest to shut and the one to look into, one - alone for None."""
    if advice is None:
        return "-"
    away, chest = advice
    return f"{word_of(away)} {chest}"
