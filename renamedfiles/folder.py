"""The folder: its files, the wish that may be under way, and the calls on them."""

from renamedfiles.naming import is_name, is_rule, new_name
from renamedfiles.reader import Reader
from renamedfiles.renaming import next_renaming, renamings_left

MOST_FILES = 16

BEGIN = 0
ADD = 1
WISH = 2
STEP = 3
FINISH = 4
BACK = 5
ALL = 6
NAME = 7
FIND = 8
STATE = 9

NOT_THERE = -2
TOO_MANY_FILES = -12
WISH_UNDER_WAY = -15
NAME_TAKEN = -17
NOT_VALID = -22
NO_WISH = -61
NO_RULE = -71
NO_NEW_NAME = -1000
SAME_NEW_NAME = -2000


class UnknownCall(ValueError):
    pass


class Folder:
    def __init__(self):
        self.names = []
        # Without a wish this is None; with one, of each file the name that it's to get.
        self.wanted = None
        # The renamings since the wish was made, each as the file and the name that it had before.
        self.done = []

    def begin(self):
        self.names = []
        self.end_wish()
        return 0

    def add(self, name):
        if self.wanted is not None:
            return WISH_UNDER_WAY
        if not is_name(name):
            return NOT_VALID
        if name in self.names:
            return NAME_TAKEN
        if len(self.names) == MOST_FILES:
            return TOO_MANY_FILES
        self.names.append(name)
        return len(self.names) - 1

    def wish(self, rule, start, files):
        if self.wanted is not None:
            return WISH_UNDER_WAY
        if not is_rule(rule):
            return NO_RULE
        if not can_be_told(files, len(self.names)):
            return NOT_VALID
        wanted = names_by_rule(self.names, rule, start, files)
        refusal = refusal_of_names(wanted)
        if refusal < 0:
            return refusal
        count = renamings_left(self.names, wanted)
        if count > 0:
            self.wanted = wanted
        return count

    def step(self):
        if self.wanted is None:
            return NO_WISH
        self.rename_next()
        if self.names != self.wanted:
            return 1
        self.end_wish()
        return 0

    def finish(self):
        if self.wanted is None:
            return NO_WISH
        while self.names != self.wanted:
            self.rename_next()
        self.end_wish()
        return 0

    def back(self):
        if self.wanted is None:
            return NO_WISH
        if len(self.done) == 0:
            self.end_wish()
            return 0
        self.take_back_last()
        return 1

    def take_back_all(self):
        if self.wanted is None:
            return NO_WISH
        while len(self.done) > 0:
            self.take_back_last()
        self.end_wish()
        return 0

    def name_now(self, file):
        if file >= len(self.names):
            return [NOT_THERE]
        name = self.names[file]
        return [len(name)] + list(name)

    def find(self, name):
        if name not in self.names:
            return NOT_THERE
        return self.names.index(name)

    def state(self):
        if self.wanted is None:
            return [0, len(self.names), 0, 0]
        return [1, len(self.names), len(self.done), renamings_left(self.names, self.wanted)]

    def rename_next(self):
        renaming = next_renaming(self.names, self.wanted)
        file = renaming[0]
        self.done.append((file, self.names[file]))
        self.names[file] = renaming[1]

    def take_back_last(self):
        renaming = self.done.pop()
        self.names[renaming[0]] = renaming[1]

    def end_wish(self):
        self.wanted = None
        self.done = []


def can_be_told(files, count):
    for place in range(len(files)):
        if files[place] >= count or files[place] in files[:place]:
            return False
    return True


def names_by_rule(names, rule, start, files):
    wanted = list(names)
    for place in range(len(files)):
        file = files[place]
        wanted[file] = new_name(rule, names[file], start + place)
    return wanted


def refusal_of_names(wanted):
    # Two loops, since a file that gets no name comes ahead of any two that get the same.
    for file in range(len(wanted)):
        if wanted[file] is None:
            return NO_NEW_NAME - file
    for file in range(len(wanted)):
        if wanted[file] in wanted[:file]:
            return SAME_NEW_NAME - file
    return 0


def answer(folder, reader):
    call = reader.take_number()
    if call == BEGIN:
        return [folder.begin()]
    if call == ADD:
        return [folder.add(reader.take_row())]
    if call == WISH:
        start = reader.take_number()
        rule = reader.take_row()
        files = reader.take_row()
        return [folder.wish(rule, start, files)]
    if call == STEP:
        return [folder.step()]
    if call == FINISH:
        return [folder.finish()]
    if call == BACK:
        return [folder.back()]
    if call == ALL:
        return [folder.take_back_all()]
    if call == NAME:
        return folder.name_now(reader.take_number())
    if call == FIND:
        return [folder.find(reader.take_row())]
    if call == STATE:
        return folder.state()
    raise UnknownCall(f"no such call: {call}")


def answers(calls):
    folder = Folder()
    reader = Reader(calls)
    given = []
    while not reader.at_end():
        numbers = answer(folder, reader)
        given.append(len(numbers))
        given.extend(numbers)
    return given
