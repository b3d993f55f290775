"""How the tests ask for a refusal."""


def assert_refused(case, error, call, *handed):
    """Assert that a call is refused with this very error, not with one under or above it."""
    with case.subTest(call=call.__name__, handed=repr(handed)[:200]):
        try:
            told = call(*handed)
        except error as refusal:
            case.assertIs(type(refusal), error)
        else:
            case.fail(f"not refused, but told: {repr(told)[:200]}")
