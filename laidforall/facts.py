"""Facts: the rows of a sheet and the marks of a tree, all or only some of them kept."""

from laidforall.trees import all_places, node_at, with_mark

ROW = "row"

MARK = "mark"


def facts_of(setting, tree):
    """Return the list of the facts of a tree and its setting."""
    rows = [(ROW, index) for index in range(len(setting.sheet))]
    return rows + [(MARK, place) for place in all_places(tree) if node_at(tree, place)[1] != ""]


def keep_facts(setting, tree, kept):
    """Return (sheet, tree) in which only some facts are kept."""
    sheet = setting.sheet.only([index for name, index in kept if name == ROW])
    told = tree
    for place in all_places(tree):
        if (MARK, place) not in kept:
            told = with_mark(told, place, "")
    return sheet, told
