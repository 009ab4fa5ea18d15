"""A viewer and a plain viewer side by side: each call goes to both, and they must agree."""

import random

from stickyheads import errors
from stickyheads.viewer import Viewer
from tests.plain_viewer import PlainViewer, Refused, drawn_call


class BothViewers:
    def __init__(self, case, document, height):
        self.case = case
        self.viewer = Viewer(list(document), height)
        self.model = PlainViewer(document, height)
        self.calls = [("Viewer", document, height)]
        self.refused = []
        self.compare()

    def copied(self):
        """Both of them duplicated."""
        other = BothViewers(self.case, [(0, "a")], 1)
        other.viewer, other.model, other.calls = self.viewer.duplicate(), self.model.copied(), list(self.calls)
        other.compare()
        return other

    def compare(self):
        viewer, model = self.viewer, self.model
        found = (viewer.document(), viewer.folds(), viewer.scroll(), viewer.view(), len(viewer))
        expected = (model.document(), model.folds(), model.scroll(), model.view(), len(model.document()))
        self.case.assertEqual(found, expected, self.calls)

    def call(self, name, *arguments):
        """Call both; return the name of the error that both raise, or None."""
        self.calls.append((name, *arguments))
        expected = None
        try:
            self.model.call(name, *arguments)
        except Refused as refused:
            expected = (refused.name, refused.line)
        found = None
        try:
            self.case.assertIs(getattr(self.viewer, name)(*arguments), None, self.calls)
        except errors.StickyHeadsError as error:
            found = (type(error).__name__, getattr(error, "line", None))
        self.case.assertEqual(found, expected, self.calls)
        self.compare()
        self.refused.append(found[0] if found else None)
        return self.refused[-1]

    def draw(self, seed, many):
        """So many drawn calls."""
        source = random.Random(seed)
        for _ in range(many):
            self.call(*drawn_call(source, self.model))
