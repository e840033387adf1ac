"""Jobs written as texts, and read back."""

from farend.errors import NoJob, NoText
from farend.jobs import is_job, is_work

FIGURES = "0123456789"
MOST_FIGURES = 2
SEND_AHEAD = "send-"


def show_step(step):
    """Tell the word of a step."""
    if step[0] == "send":
        return f"{SEND_AHEAD}{step[1]}"
    return step[0]


def show_work(work):
    """Tell the row of a work, without its line end."""
    room, steps = work
    return f"{room}:" + "".join([" " + show_step(step) for step in steps])


def show_job(job):
    """Tell the text of a job, or of any works: a row for each one."""
    return "".join([show_work(work) + "\n" for work in job])


def read_number(word):
    """Tell the number that a word writes, None where it is none of one or two figures without a 0 ahead."""
    # The length is looked at first: Python itself refuses to read thousands of figures.
    if not 1 <= len(word) <= MOST_FIGURES or not all(sign in FIGURES for sign in word):
        return None
    if len(word) > 1 and word[0] == "0":
        return None
    return int(word)


def read_step(word):
    """Tell the step that a word writes, None where it is none."""
    if word == "do" or word == "wait":
        return (word,)
    if not word.startswith(SEND_AHEAD):
        return None
    number = read_number(word[len(SEND_AHEAD):])
    return None if number is None else ("send", number)


def read_work(row):
    """Tell the work that a row without its line end writes, None where it is none by itself."""
    words = row.split(" ")
    if not words[0].endswith(":"):
        return None
    work = (read_number(words[0][:-1]), tuple([read_step(word) for word in words[1:]]))
    return work if is_work(work) else None


def read_works(text):
    """Tell the works that a text's rows write."""
    # Behind the last line end stands one more part; it is no row where it is empty and rows stand ahead.
    *rows, rest = text.split("\n")
    works = []
    for line, row in enumerate(rows):
        work = read_work(row)
        if work is None:
            raise NoText(line)
        works.append(work)
    if rest != "" or not works:
        raise NoText(len(works))
    return works


def read_job(text):
    """Tell the job that a text writes."""
    job = tuple(read_works(text))
    if not is_job(job):
        raise NoJob("the works of this text are no job")
    return job
