"""Runs the examples of the document as they stand there."""

PROMPT = ">>> "


def outcome(session):
    """Run the lines behind the prompts; return the repr of the last one, or the error that it raises."""
    lines = [line.strip() for line in session.strip().splitlines()]
    commands = [line.removeprefix(PROMPT) for line in lines if line.startswith(PROMPT)]
    names = {}
    for command in commands[:-1]:
        exec(command, names)
    try:
        return repr(eval(commands[-1], names))
    except (ValueError, LookupError) as error:
        return f"raises {error!r}"


def check_session(test, session):
    """Check that the session ends with its own last line."""
    expected = session.strip().splitlines()[-1].strip()
    test.assertEqual(outcome(session), expected)
