"""The one helper of the tests: calls as the interface lays them out, and their answers."""

from renamedfiles.folder import answers

BEGIN = [0]
STEP = [3]
FINISH = [4]
BACK = [5]
ALL = [6]
STATE = [9]


def codes(text):
    return [ord(sign) for sign in text]


def row(numbers):
    return [len(numbers)] + list(numbers)


def add(name):
    return [1] + row(codes(name))


def wish(rule, start, files):
    return [2, start] + row(codes(rule)) + row(files)


def name_of(file):
    return [7, file]


def find(name):
    return [8] + row(codes(name))


def laid_out(calls):
    return [number for call in calls for number in call]


def all_answers(calls):
    """Of each call the list of what it answers; checked is that there's one for each, and nothing behind."""
    given = answers(laid_out(calls))
    rows = []
    place = 0
    while place < len(given):
        if given[place] < 1:
            raise AssertionError(f"no answer has {given[place]} numbers: {given}")
        end = place + 1 + given[place]
        rows.append(given[place + 1:end])
        place = end
    if len(rows) != len(calls) or place != len(given):
        raise AssertionError(f"not an answer for each of {len(calls)} calls: {given}")
    return rows


def single_answers(calls):
    """The answers of calls that each answer one number, checked to be laid out so."""
    rows = all_answers(calls)
    if any(len(answered) != 1 for answered in rows):
        raise AssertionError(f"not one number for each of {len(calls)} calls: {rows}")
    return [answered[0] for answered in rows]


def with_files(names, calls):
    return [add(name) for name in names] + calls


def all_answers_behind(names, calls):
    """What each of the calls answers, on a folder that has files of these names."""
    rows = all_answers(with_files(names, calls))
    if rows[:len(names)] != [[number] for number in range(len(names))]:
        raise AssertionError(f"the names were not all taken: {rows}")
    return rows[len(names):]


def answers_behind(names, calls):
    """The same of calls that each answer one number."""
    rows = all_answers_behind(names, calls)
    if any(len(answered) != 1 for answered in rows):
        raise AssertionError(f"not one number for each of {len(calls)} calls: {rows}")
    return [answered[0] for answered in rows]


def text_of(answered):
    """The name that the call name answered, checked to have as many bytes as it tells."""
    if answered[0] != len(answered) - 1:
        raise AssertionError(f"not a name with its length: {answered}")
    return "".join(map(chr, answered[1:]))


def names_along(names, calls):
    """The names of all files behind each of the calls, none of which adds a file or takes one away."""
    asked = [name_of(file) for file in range(len(names))]
    rows = all_answers_behind(names, [one for call in calls for one in [call] + asked])
    width = 1 + len(names)
    return [[text_of(answered) for answered in rows[place + 1:place + width]] for place in range(0, len(rows), width)]


def names_behind(names, calls):
    """The names of all files behind all of the calls."""
    asked = [name_of(file) for file in range(len(names))]
    return [text_of(answered) for answered in all_answers_behind(names, calls + asked)[len(calls):]]


def finished_names(names, rule, start, files):
    """The names behind a wish that must be taken, when it is finished."""
    wished = wish(rule, start, files)
    answered = answers_behind(names, [wished])[0]
    if answered < 0:
        raise AssertionError(f"the wish was refused: {answered}")
    return names_behind(names, [wished, FINISH])
