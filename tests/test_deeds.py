"""Random deeds of up to three responses, held against the plain model, and against states worked out from nothing."""

import random
import unittest

from deeds import outcome, random_deed, random_form
from formflow.copies import delta
from formflow.entries import heap
from formflow.reach import report
from formflow.response import Response
from formflow.saved import load, save
from formflow.state import work_out
from plain import PlainResponse


class DeedsTest(unittest.TestCase):
    def check_alike(self, response, plain):
        self.assertEqual(response.entries(), plain.entries())
        self.assertEqual(response.version(), plain.version())
        self.assertEqual(response.state(), plain.state())
        self.assertEqual(response.journal(), plain.journal())
        self.assertEqual(response.form(), plain.form())

    def check_deed(self, response, plain, deed):
        """Does a deed with both, and tells what came of it."""
        form, state = response.form(), response.state()
        before = repr((form, state, response.entries(), deed))
        found = outcome(response, deed)
        self.assertEqual(found, outcome(plain, deed), deed)
        self.check_alike(response, plain)
        self.assertEqual(response.state(), work_out(response.form(), heap(response.entries())))
        told = found[1][1] if deed[0] == "add" and found[0] == "told" else found[1]
        if found[0] == "told" and told is not None:
            self.assertEqual(told, report(form, state, response.form(), response.state()))
        else:
            self.assertEqual(repr((form, response.state(), response.entries(), deed)), before)
        return found

    def test_alone(self):
        pick = random.Random(31)
        seen = {}
        for _ in range(60):
            form = random_form(pick)
            response, plain = Response("camp", 3, form), PlainResponse("camp", 3, form)
            for _ in range(pick.choice((10, 30, 60))):
                deed = random_deed(pick, response)
                found = self.check_deed(response, plain, deed)
                kind = (deed[0], found[1] if found[0] == "refused" else found[1] is not None)
                seen[kind] = seen.get(kind, 0) + 1
            while outcome(response, ("undo", ()))[1] is not None:
                outcome(plain, ("undo", ()))
            self.check_alike(response, plain)
            self.assertIsNone(plain.undo())
        for kind in (("put", True), ("put", "no question"), ("put", "not accepted"), ("clear", True),
                     ("clear", "no question"), ("add", True), ("add", "no section"), ("add", "too many rows"),
                     ("remove", True), ("remove", "no section"), ("remove", "no row"), ("order", True),
                     ("order", "no section"), ("order", "no order"), ("undo", True), ("undo", False), ("redo", True),
                     ("redo", False)):
            self.assertIn(kind, seen)

    def exchange(self, pick, pairs, one, other):
        """Gives what one has to another, since some version that one knows of; tells what came of it."""
        since = pick.choice([pairs[other][0].version(), pairs[other][0].version(), (), pairs[one][0].version(),
                             ((pick.randrange(1, 4), pick.randrange(1, 30)),)])
        given = pairs[one][0].since(since)
        self.assertEqual(given, pairs[one][1].since(since))
        self.assertEqual(given, delta("camp", since, pairs[one][0].version(), pairs[one][0].entries()))
        return ("merge", (given,))

    def test_together(self):
        pick = random.Random(32)
        seen = {}
        for _ in range(60):
            form = random_form(pick)
            count = pick.choice((2, 3))
            pairs = [(Response("camp", number, form), PlainResponse("camp", number, form))
                     for number in range(1, count + 1)]
            late = []
            for _ in range(40):
                at = pick.randrange(count)
                deed = random_deed(pick, pairs[at][0])
                chance = pick.random()
                if chance < 0.25:
                    deed = self.exchange(pick, pairs, pick.randrange(count), at)
                    late.append(deed)
                elif chance < 0.3 and late:
                    deed = pick.choice(late)
                elif chance < 0.35:
                    deed = ("change_form", (random_form(pick),))
                found = self.check_deed(*pairs[at], deed)
                seen[found[1] if found[0] == "refused" else deed[0]] = True
            self.check_agreement(pick, [response for response, _ in pairs])
        for kind in ("merge", "gap", "change_form", "undo", "redo", "put", "add"):
            self.assertIn(kind, seen)

    def check_agreement(self, pick, responses):
        """b3: with the same version they have the same heap; with the same form, too, the same state."""
        form = responses[0].form()
        for response in responses:
            response.change_form(form)
        order = [(one, other) for one in responses for other in responses] * 2
        pick.shuffle(order)
        for one, other in order:
            other.merge(one.since(pick.choice(((), other.version()))))
        for response in responses:
            self.assertEqual(response.version(), responses[0].version())
            self.assertEqual(response.entries(), responses[0].entries())
            self.assertEqual(response.state(), responses[0].state())
            self.assertEqual(response.state(), work_out(form, responses[0].entries()))

    def test_saved_and_loaded(self):
        pick = random.Random(33)
        for _ in range(60):
            form = random_form(pick)
            one, two = Response("camp", 1, form), Response("camp", 2, form)
            for _ in range(25):
                outcome(pick.choice((one, two)), random_deed(pick, one))
                if pick.random() < 0.2:
                    one.merge(two.since(one.version()))
            text = save(one)
            loaded = load(text, 4, form)
            self.assertEqual((loaded.document(), loaded.replica()), ("camp", 4))
            self.assertEqual((loaded.entries(), loaded.version()), (one.entries(), one.version()))
            self.assertEqual((loaded.state(), loaded.form()), (one.state(), form))
            self.assertEqual(save(loaded), text)
            self.assertIsNone(loaded.undo())
            self.assertEqual(loaded.journal(), "")


if __name__ == "__main__":
    unittest.main()
