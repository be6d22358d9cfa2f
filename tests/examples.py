"""Runs examples as the document writes them: a line behind `>>>`, and below it what it gives or raises."""

from gapsame import errors


def run_examples(case, text, names):
    """Runs the examples in their order; names are those that they use, and get what they make."""
    source = None
    for line in text.strip().split("\n") + [">>> None"]:
        if line.startswith(">>> "):
            if source is not None:
                exec(source, names)
            source = line[4:]
        else:
            with case.subTest(example=source):
                run_one(case, source, line, names)
            source = None


def run_one(case, source, wanted, names):
    """Runs one example, and compares it with the line that stands below it."""
    if wanted.startswith("raises "):
        error = eval(wanted.removeprefix("raises "), dict(vars(errors)))
        # An error without a field is written with or without its parentheses.
        error = error() if isinstance(error, type) else error
        with case.assertRaises(errors.FieldError) as caught:
            eval(source, names)
        case.assertIs(caught.exception.__class__, error.__class__)
        case.assertEqual(vars(caught.exception), vars(error))
    else:
        case.assertEqual(repr(eval(source, names)), wanted)


def assert_raises(case, error, function, *values, **named):
    """That a call raises just this error: of this class, with these fields."""
    with case.assertRaises(errors.FieldError) as caught:
        function(*values, **named)
    case.assertIs(caught.exception.__class__, error.__class__)
    case.assertEqual(vars(caught.exception), vars(error))
