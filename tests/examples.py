"""Runs examples as the document writes them: a call behind >>>, what it returns or raises below."""


def run_example(case, code, wanted, names):
    """Run one example in names, and compare to the sign: True is not 1, a list is no tuple."""
    if wanted is None:
        exec(code, names)
        return
    if not wanted.startswith("raises "):
        case.assertEqual(repr(eval(code, names)), wanted, code)
        return
    try:
        told = eval(code, names)
    except Exception as error:
        values = ", ".join(f"{name}={value!r}" for name, value in vars(error).items())
        case.assertEqual(f"raises {type(error).__name__}({values})", wanted, code)
        return
    case.fail(f"{code} returned {told!r}, {wanted}")


def run_examples(case, text, names):
    """Run all examples of text, one behind the other, in the same names."""
    lines = [line.strip() for line in text.strip().split("\n")]
    for place, line in enumerate(lines):
        if not line.startswith(">>> "):
            continue
        below = lines[place + 1] if place + 1 < len(lines) else ">>> "
        wanted = None if below.startswith(">>> ") else below
        with case.subTest(line):
            run_example(case, line[4:], wanted, names)
