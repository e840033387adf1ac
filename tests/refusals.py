"""How a refusal is looked at."""

from farend.errors import FarError, NoBack, NoJob, NoLine, NoOrder, NoSize, NoText, NoTurn, NoYard

ALL_REFUSALS = (NoBack, NoJob, NoLine, NoOrder, NoSize, NoText, NoTurn, NoYard)


def assert_refused(case, kind, asked):
    """Asked, a refusal of just this kind is raised, a FarError and a ValueError and none of the others; tell it."""
    with case.assertRaises(kind) as caught:
        asked()
    case.assertIsInstance(caught.exception, FarError)
    case.assertIsInstance(caught.exception, ValueError)
    case.assertNotIsInstance(caught.exception, tuple(other for other in ALL_REFUSALS if other is not kind))
    return caught.exception
