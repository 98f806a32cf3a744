"""Interviews, which ask what is missing in a response (x1, x2)."""

from formflow.completeness import missing, progress
from formflow.errors import BadEdit


class Interview:
    """Asks one missing question of a response after the other."""

    def __init__(self, response):
        self._response = response
        self._passed = {}

    def asked(self):
        """The path that is asked, or None if the interview is over."""
        for path in missing(self._response.form(), self._response.state()):
            if path not in self._passed:
                return path
        return None

    def answer(self, value):
        """Puts a value at the path that is asked: "taken", "rejected" or "over"."""
        path = self.asked()
        if path is None:
            return "over"
        try:
            self._response.put(path, value)
        except BadEdit:
            return "rejected"
        return "taken"

    def pass_over(self):
        """Goes over the path that is asked: "passed" or "over"."""
        path = self.asked()
        if path is None:
            return "over"
        self._passed[path] = True
        return "passed"

    def outcome(self):
        """(whether the response is complete, the paths of missing questions)."""
        form, state = self._response.form(), self._response.state()
        return (progress(form, state)[2], tuple(missing(form, state)))
