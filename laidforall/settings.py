"""Settings: what trees are set with."""


class Setting:
    """A grammar, a sheet, three faces, joint rows and a book."""

    def __init__(self, grammar, sheet, faces, joints, book):
        self.grammar = grammar
        self.sheet = sheet
        self.faces = list(faces)
        self.joints = joints
        self.book = book

    def copy(self):
        """Return a setting with the same values."""
        return Setting(self.grammar, self.sheet, self.faces, self.joints, self.book)


class Before:
    """The sheet and the book that a setting had, and what was kept before them."""

    def __init__(self, sheet, book, below):
        self.sheet = sheet
        self.book = book
        self.below = below


class Changed:
    """A setting with another sheet or book, as long as a with goes on."""

    def __init__(self, setting, *, sheet=None, book=None):
        self._setting = setting
        self._sheet = sheet
        self._book = book
        self._before = None

    def __enter__(self):
        setting = self._setting
        self._before = Before(setting.sheet, setting.book, self._before)
        if self._sheet is not None:
            setting.sheet = self._sheet
        if self._book is not None:
            setting.book = self._book
        return setting

    def __exit__(self, kind, value, trace):
        setting = self._setting
        setting.sheet = self._before.sheet
        setting.book = self._before.book
        self._before = self._before.below
