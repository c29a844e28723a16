"""Runs examples just as the document prints them."""


def pairs_of(text):
    """Return pairs of the code of each example and what is printed for it, or None."""
    found = []
    for line in text.strip().split("\n"):
        if line.startswith(">>> "):
            found.append((line[4:], None))
        else:
            found[-1] = (found[-1][0], line)
    return found


def run_examples(case, text, names):
    """Check each example of the text; names are what the earlier ones made."""
    for code, printed in pairs_of(text):
        with case.subTest(code):
            if printed is None:
                exec(code, names)
            elif printed.startswith("raises "):
                check_raises(case, eval(printed[len("raises "):], names), eval, code, names)
            else:
                case.assertEqual(repr(eval(code, names)), printed)


def check_raises(case, error, function, *values, **named):
    """Check that the call raises just this error, with fields of these values."""
    with case.assertRaises(error.__class__) as caught:
        function(*values, **named)
    case.assertIs(caught.exception.__class__, error.__class__)
    case.assertEqual(repr(vars(caught.exception)), repr(vars(error)))
