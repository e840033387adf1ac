"""A desk: told rows of words, it answers by texts."""

from farend.beats import measured
from farend.errors import NoJob, NoLine, NoYard
from farend.fewest import fewest
from farend.jobs import is_job
from farend.plans import bound
from farend.texts import read_work, show_job
from farend.yard import Yard

# H and V of the document are hands' numbers, N says how many hands.
FIGURES = {"H": "0123456789", "V": "0123456789", "N": "123456"}

# Each first word but work, with the numbers that stand behind it.
FORMS = {
    "hands": "N",
    "turn": "HV",
    "back": "",
    "works": "",
    "heaps": "",
    "done": "",
    "room": "",
    "beats": "N",
    "bound": "N",
    "least": "N",
    "show": "",
    "clear": "",
}


def has_form(words):
    """Tell whether words are such as a desk knows, but for work."""
    if words[0] not in FORMS:
        return False
    form = FORMS[words[0]]
    if len(words) - 1 != len(form):
        return False
    return all([len(word) == 1 and word in FIGURES[number] for word, number in zip(words[1:], form)])


def read_row(row):
    """Tell a row's first word and a list of what stands behind it: a work, or numbers."""
    head, blank, rest = row.partition(" ")
    if head == "work":
        work = read_work(rest)
        if work is None:
            raise NoLine("behind work stands no work")
        return (head, [work])
    words = row.split(" ")
    if not has_form(words):
        raise NoLine("a desk doesn't know this row")
    return (head, [int(word) for word in words[1:]])


def in_words(parts):
    """Tell the texts of some parts with a blank between."""
    return " ".join([str(part) for part in parts])


def around(hands):
    """Tell the order in which each hand looks from the next one on around."""
    return tuple([tuple([(hand + way) % hands for way in range(1, hands)]) for hand in range(hands)])


def answer_turn(yard, numbers):
    """Do a turn, and tell what it told."""
    hand, other = numbers
    return in_words(yard.turn(hand, other))


def answer_back(yard, numbers):
    """Undo the last turn."""
    yard.back()
    return "ok"


def answer_works(yard, numbers):
    """Tell each hand's work."""
    return in_words(["-" if work is None else work for work in yard.works()])


def answer_heaps(yard, numbers):
    """Tell each heap."""
    return in_words([",".join([str(work) for work in heap]) if heap else "-" for heap in yard.heaps()])


def answer_done(yard, numbers):
    """Tell how many steps are done."""
    return str(len(yard.done()))


def answer_room(yard, numbers):
    """Tell the room now, and the most."""
    return in_words([yard.room(), yard.most()])


def answer_beats(job, numbers):
    """Tell the measures of a job done beat by beat."""
    return in_words(measured(job, numbers[0], around(numbers[0])))


def answer_bound(job, numbers):
    """Tell a plan's bound."""
    return str(bound(job, numbers[0]))


def answer_least(job, numbers):
    """Tell the fewest beats."""
    plan, marks = fewest(job, numbers[0])
    return str(len(plan))


OF_A_YARD = {
    "turn": answer_turn,
    "back": answer_back,
    "works": answer_works,
    "heaps": answer_heaps,
    "done": answer_done,
    "room": answer_room,
}

OF_A_JOB = {
    "beats": answer_beats,
    "bound": answer_bound,
    "least": answer_least,
}


class Desk:
    """The works that were put, and the yard that stands, if any."""

    def __init__(self):
        self.put_works = []
        self.yard = None

    def say(self, row):
        """Tell the answer to a row."""
        head, worths = read_row(row)
        if head == "show":
            return show_job(self.put_works)
        if head == "work":
            return self.stand_anew(self.put_works + worths, None)
        if head == "clear":
            return self.stand_anew([], None)
        job = tuple(self.put_works)
        if not is_job(job):
            raise NoJob("the works that stand are no job")
        if head == "hands":
            return self.stand_anew(self.put_works, Yard(job, worths[0]))
        if head in OF_A_JOB:
            answer = OF_A_JOB[head]
            return answer(job, worths)
        return self.say_of_yard(head, worths)

    def stand_anew(self, works, yard):
        """Let just these works and this yard stand."""
        self.put_works = works
        self.yard = yard
        return "ok"

    def say_of_yard(self, head, numbers):
        """Tell the answer to a row that asks the yard."""
        if self.yard is None:
            raise NoYard("no yard stands")
        answer = OF_A_YARD[head]
        return answer(self.yard, numbers)
