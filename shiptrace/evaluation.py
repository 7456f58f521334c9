"""Evaluating stamped expressions, and what they read on the way."""

from shiptrace.errors import BuildFailed
from shiptrace.texts import find, replace_all, signs_of
from shiptrace.trees import entry_of, files_under

LONGEST_TEXT = 120


class Evaluation:
    """One evaluation: where it reads, and what it has read so far.

    `look_up` is called with the name of a target at the moment when it is read. It
    returns the result of the target and the characters that are read in building it.
    So `characters` has these in the place of the read.
    """

    def __init__(self, files, look_up, coins):
        self.files = files
        self.look_up = look_up
        self.coins = coins
        self.reads = []
        self.characters = []


def read_of_file(files, path):
    """Return the read that tells whether there is such a file, and how long it is."""
    text = entry_of(files, path)
    return ("missing", path) if text is None else ("file", path, len(text))


def read_of_listing(files, prefix):
    """Return the read that tells which files there are under the prefix."""
    return ("list", prefix, tuple([path for path, _ in files_under(files, prefix)]))


def read_of_target(name, result):
    """Return the read that tells what the target evaluates to, and how long it is."""
    kind, value = result
    return ("target", name, len(value)) if kind == "text" else ("failed", name, value)


def _read_text(run, text):
    run.reads.extend([("char", character) for character in text])
    run.characters.extend(text)


def _read_file(run, path):
    """Read the file and return its text, or None if there is no such file."""
    run.reads.append(read_of_file(run.files, path))
    return entry_of(run.files, path)


def _read_optional_file(run, path):
    text = _read_file(run, path)
    return () if text is None else text


def _literal(run, expression):
    return expression[1]


def _file(run, expression):
    text = _read_file(run, expression[1])
    if text is None:
        raise BuildFailed(("missing file", expression[1]))
    return text


def _optional_file(run, expression):
    return _read_optional_file(run, expression[1])


def _target(run, expression):
    look_up = run.look_up
    result, characters = look_up(expression[1])
    run.reads.append(read_of_target(expression[1], result))
    run.characters.extend(characters)
    kind, value = result
    if kind == "error":
        raise BuildFailed(value)
    return value


def _concat(run, expression):
    first = _text_of(run, expression[1])
    return first + _text_of(run, expression[2])


def _slice(run, expression):
    return _text_of(run, expression[1])[expression[2]:expression[3]]


def _searched(run, expression):
    """Return the texts before the match, of the match, and after it."""
    text = _text_of(run, expression[1])
    wanted = _text_of(run, expression[2])
    _, before, match, after, read = find(text, wanted)
    _read_text(run, read)
    return before, match, after


def _before(run, expression):
    return _searched(run, expression)[0]


def _find(run, expression):
    return _searched(run, expression)[1]


def _after(run, expression):
    return _searched(run, expression)[2]


def _replace_all(run, expression):
    text = _text_of(run, expression[1])
    wanted = _text_of(run, expression[2])
    new = _text_of(run, expression[3])
    result, read = replace_all(text, wanted, new)
    _read_text(run, read)
    return result


def _if(run, expression):
    _, test, then, otherwise = expression
    return _text_of(run, then if _text_of(run, test) else otherwise)


def _concat_files(run, expression):
    found = files_under(run.files, expression[1])
    run.reads.append(read_of_listing(run.files, expression[1]))
    run.reads.extend([read_of_file(run.files, path) for path, _ in found])
    return tuple([character for _, text in found for character in text])


def _dynamic_file(run, expression):
    path = _text_of(run, expression[1])
    _read_text(run, path)
    return _read_optional_file(run, signs_of(path))


def _coin(run, expression):
    _, coin, heads, tails = expression
    shown = run.coins[coin]
    run.reads.append(("coin", coin, shown))
    return _text_of(run, heads if shown == 0 else tails)


FORMS = {
    "literal": _literal,
    "file": _file,
    "optional file": _optional_file,
    "target": _target,
    "concat": _concat,
    "slice": _slice,
    "find": _find,
    "after": _after,
    "before": _before,
    "replace all": _replace_all,
    "if": _if,
    "concat files": _concat_files,
    "dynamic file": _dynamic_file,
    "coin": _coin,
}


def _text_of(run, expression):
    """Return the text of the expression; raise BuildFailed if it evaluates to an error."""
    form = FORMS[expression[0]]
    text = form(run, expression)
    if len(text) > LONGEST_TEXT:
        raise BuildFailed(("too long",))
    return text


def evaluate_with(run, expression):
    """Return the result of the expression in an evaluation that has just begun."""
    try:
        text = _text_of(run, expression)
    except BuildFailed as failure:
        return ("error", failure.error)
    return ("text", text)


def result_in(targets, name):
    """Return what the target evaluates to in an environment with these targets."""
    result = entry_of(targets, name)
    return ("error", ("missing target", name)) if result is None else result


def evaluate(expression, environment):
    """Return what the stamped expression evaluates to, and its reads."""
    files, targets, coins = environment
    run = Evaluation(files, lambda name: (result_in(targets, name), ()), coins)
    result = evaluate_with(run, expression)
    return result, tuple(run.reads)
