"""Answers: a verdict on a claim, and what it is told by."""


class Answer:
    """A verdict, "sure", "never" or "open", and the trees or worlds that show it."""

    def __init__(self, verdict, told_by):
        self.verdict = verdict
        self.told_by = told_by
