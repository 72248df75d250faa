"""The plant that a line of calls is on, with the changes that can be undone and done again."""

from cacaoworks.layout import read_layout
from cacaoworks.moment import beginning, is_same

MOST_KEPT = 16


# now: the plant as it is
# before: the moments before the changes that can be undone, the latest last
# undone: the moments behind the changes that can be done again, the next one last
class Works:
    def __init__(self):
        self.now = beginning(read_layout([]))
        self.before = []
        self.undone = []


# Makes this moment the one that's now. It's a change only if something is otherwise then.
def move_on(works, moment):
    if not is_same(works.now, moment):
        works.before = (works.before + [works.now])[-MOST_KEPT:]
        works.undone = []
        works.now = moment


def undo(works):
    if len(works.before) == 0:
        return [-3]
    works.undone.append(works.now)
    works.now = works.before.pop()
    return [0, len(works.before)]


def redo(works):
    if len(works.undone) == 0:
        return [-3]
    works.before.append(works.now)
    works.now = works.undone.pop()
    return [0, len(works.undone)]
