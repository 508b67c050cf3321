"""What the tests of plans, batches and shells share."""

from fewspans.errors import NoVersion, SpanError, Unknown
from fewspans.plans import Plan
from samples import intervals_up_to
from timed import Timed

ADDING = ("add_target", "add_piece")
WORDS = ADDING + ("remove_target", "remove_piece")
QUERIES = ("targets", "pieces", "needed", "solution", "missing")


def call(plan, name, *arguments, **keywords):
    return getattr(plan, name)(*arguments, **keywords)


def sight(plan):
    """Return all that can be seen of a plan without counting."""
    versions = range(len(plan) + 1)
    states = [(plan.targets(version=at), plan.pieces(version=at)) for at in versions]
    return repr((len(plan), str(plan), plan.edits(), states, plan.targets(), plan.pieces(), plan.missing()))


def full_plan():
    """Make a plan with 60 edits of all four kinds and at most eight blocks."""
    plan = Plan((), ())
    for interval in intervals_up_to(5):
        plan.add_target(interval)
        plan.add_piece(interval)
    while len(plan) < 60:
        plan.remove_target(plan.targets()[-1])
        plan.remove_piece(plan.pieces()[0])
    return plan


class Plans(Timed):
    def check_raises(self, error, fields, function, *arguments, **keywords):
        """Check the class, the base and the fields of the error that a call raises, and return it."""
        with self.assertRaises((SpanError, LookupError)) as context:
            function(*arguments, **keywords)
        raised = context.exception
        self.assertIs(type(raised), error)
        self.assertIs(isinstance(raised, ValueError), error not in (Unknown, NoVersion))
        self.assertIs(isinstance(raised, LookupError), error in (Unknown, NoVersion))
        for name, value in fields.items():
            self.assertEqual(repr(getattr(raised, name)), repr(value))
        return raised

    def check_kept(self, plan, error, fields, name, *arguments, **keywords):
        """Check that a method raises the error and leaves the plan as it is."""
        before = sight(plan)
        given = repr((arguments, keywords))
        with self.subTest(name, given=given[:90]):
            raised = self.check_raises(error, fields, getattr(plan, name), *arguments, **keywords)
            self.assertEqual(sight(plan), before)
            self.assertEqual(repr((arguments, keywords)), given)
            return raised
