"""Programs on several sites (points 42 and 43)."""

from leatwork.errors import Failed, NotReady, TooMany
from leatwork.mail import FAILURE, Mail
from leatwork.members import Member
from leatwork.programs import check
from leatwork.schedules import picked

MOST_MOVES = 5000


class Team:
    """Sites with a program each, and the messages on their way between them."""

    def __init__(self, programs):
        every = _given_of(programs)
        shared = [x for x in every if len([1 for given, _ in programs if x in given]) > 1]
        marks = {x: k for k, x in enumerate(shared)}
        self._mail = Mail(len(programs))
        self._members = [
            Member(program, marks, len(marks) + site, len(programs)) for site, program in enumerate(programs)]

    def moves(self):
        """Returns the list of the moves that can be made."""
        found = []
        for site, member in enumerate(self._members):
            if not member.has_failed:
                found.extend([("step", site, thread) for thread in member.machine.ready()])
        return found + [("mail", sender, receiver) for sender, receiver in self._mail.pairs()]

    def move(self, index):
        """Makes a move; raises NotReady."""
        moves = self.moves()
        if not 0 <= index < len(moves):
            raise NotReady("there is no such move")
        self._make(moves[index])

    def _make(self, move):
        word, one, other = move
        if word == "step":
            self._members[one].machine.step(other)
            self._tell_news(one)
        else:
            message = self._mail.take(one, other)
            if not self.failed(other):
                self._arrive(other, message)

    def _arrive(self, site, message):
        # Whatever hangs together with something shared was told when it did so. So nothing new follows here from what
        # arrives but what follows from it elsewhere, too.
        if message == FAILURE:
            self._fail(site)
            return
        try:
            self._members[site].receive(message)
        except (Failed, TooMany):
            self._fail(site)

    def _tell_news(self, site):
        try:
            letter = self._members[site].news()
        except Failed:
            self._fail(site)
            return
        if letter is not None:
            self._mail.send(site, letter)

    def _fail(self, site):
        self._members[site].fail()
        self._mail.send(site, FAILURE)

    def play(self, schedule):
        """Makes moves as long as there are some, and returns how many it made; raises TooMany."""
        taken = 0
        moves = self.moves()
        while moves:
            if taken == MOST_MOVES:
                raise TooMany("there are still moves")
            self._make(moves[picked(schedule, taken, len(moves))])
            taken += 1
            moves = self.moves()
        return taken

    def outcome(self, site):
        """Returns the outcome of the machine of a site; raises TooMany."""
        return self._members[site].machine.outcome()

    def failed(self, site):
        """Tells whether a site has failed."""
        return self._members[site].has_failed

    def copy(self):
        """Returns a team that behaves as this one, independent of it."""
        other = Team([])
        other._mail = self._mail.copy()
        other._members = [member.copy() for member in self._members]
        return other


def together(programs):
    """Returns one program that does the same as the programs; raises BadProgram if it is not good."""
    threads = [("thread", statement) for _, statement in programs]
    result = threads[-1]
    for thread in threads[-2::-1]:
        result = ("seq", thread, result)
    program = (tuple(_given_of(programs)), result)
    check(program)
    return program


def _given_of(programs):
    """Returns the list of the given variables of programs, in the order in which they come first."""
    found = {}
    for given, _ in programs:
        for x in given:
            found[x] = True
    return list(found)
