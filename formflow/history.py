"""The edits of a response that can be undone or redone (r4, r5)."""

MOST_EDITS = 20


class History:
    """The edits that can be undone, and those that can be redone, the last one last.

    An edit is a tuple with (path, ahead, behind) for each of its paths: the very
    entry that stood there ahead of the edit (None for nothing), and the one that
    the edit wrote.
    """

    def __init__(self):
        self.done = []
        self.undone = []
        # By paths: the entry that undo or redo wrote last, and the very entry that it counts as.
        self.brought_back = {}

    def keep(self, edit):
        """Keeps a new edit; what was undone is forgotten."""
        self.done = (self.done + [edit])[-MOST_EDITS:]
        self.undone = []

    def step_back(self):
        """The edit to undo, that can be redone then; None if there is none."""
        if not self.done:
            return None
        edit = self.done.pop()
        self.undone.append(edit)
        return edit

    def step_on(self):
        """The edit to redo, that can be undone then; None if there is none."""
        if not self.undone:
            return None
        edit = self.undone.pop()
        self.done.append(edit)
        return edit

    def bring_back(self, entry, very):
        """Takes an entry that undo or redo wrote for the very entry whose value it brings back."""
        self.brought_back[(entry[0], entry[1])] = (entry, very)

    def very_entry(self, entry):
        """The very entry that an entry of the heap, or None, counts as; None for nothing."""
        if entry is None:
            return None
        written, very = self.brought_back.get((entry[0], entry[1]), (None, None))
        # Another entry can have come by an edit or by merging since.
        return very if written == entry else entry
