"""The one helper of the tests: calls as the interface lays them out, and their answers."""

from renamedfiles.folder import Folder, answers

BEGIN = [0]
STEP = [3]
FINISH = [4]


def codes(text):
    return [ord(sign) for sign in text]


def row(numbers):
    return [len(numbers)] + list(numbers)


def add(name):
    return [1] + row(codes(name))


def wish(rule, start, files):
    return [2, start] + row(codes(rule)) + row(files)


def laid_out(calls):
    return [number for call in calls for number in call]


def single_answers(calls):
    """The answers of calls that each answer one number, checked to be laid out so."""
    given = answers(laid_out(calls))
    if given[0::2] != [1] * len(calls) or len(given) != 2 * len(calls):
        raise AssertionError(f"not one number for each of {len(calls)} calls: {given}")
    return given[1::2]


def answers_behind(names, calls):
    """The answers of the calls, on a folder that has files of these names."""
    given = single_answers([add(name) for name in names] + calls)
    if given[:len(names)] != list(range(len(names))):
        raise AssertionError(f"the names were not all taken: {given}")
    return given[len(names):]


def folder_of(names):
    folder = Folder()
    for name in names:
        folder.add(tuple(codes(name)))
    return folder


def wish_on(folder, rule, start, files):
    return folder.wish(tuple(codes(rule)), start, tuple(files))


def names_in(folder):
    return ["".join(map(chr, name)) for name in folder.names]


def finished_names(names, rule, start, files):
    """The names behind a wish that must be taken, when it is finished."""
    folder = folder_of(names)
    answered = wish_on(folder, rule, start, files)
    if answered < 0:
        raise AssertionError(f"the wish was refused: {answered}")
    if answered > 0:
        folder.finish()
    return names_in(folder)
