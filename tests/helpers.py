"""What the tests share: things of any kind, and a look whether a call changes what it is handed."""


def nested(wrap, depth):
    """A thing within as many others as depth says."""
    thing = "a"
    for times in range(depth):
        thing = wrap(thing)
    return thing


def things():
    """Things of any kind, none of which is a build, a row, steps but (), a paper, marks."""
    return [
        None, True, False, 0, 1, -1, 60, 10 ** 59, 10 ** 60 - 1, -(10 ** 60 - 1),
        "", "a", "abc", "=a", "=", " ", "\n", "old", "new", "A1 ~\n",
        (), (None,), (True,), (0,), ("a",), ("a", "b"), (("a",),), ((), ()), (((),),),
        [], [None], [True], [0], ["=a"], [("a", ())], [[]],
        {}, {"a": 1}, {0: ()}, {("a", ()): None},
        ([],), ({},), ("=a", []), ("=a", None), (("a", []),), (("old", 0),), (["old", 0, 1],), (("a", {}), 3),
        nested(lambda thing: (thing,), 12), nested(lambda thing: [thing], 12),
        nested(lambda thing: {"a": thing}, 12), nested(lambda thing: ([thing], {0: thing}), 6),
    ]


def changed_once(thing, others):
    """Things like this one but for one part, at any depth, in whose place one of its others stands."""
    found = list(others(thing))
    if isinstance(thing, tuple):
        for at, part in enumerate(thing):
            found.extend(thing[:at] + (other,) + thing[at + 1:] for other in changed_once(part, others))
    return found


def as_list(thing):
    """A list in the place of a tuple."""
    return [list(thing)] if isinstance(thing, tuple) else []


def more_or_fewer(thing):
    """A tuple with a part more or fewer, at the end and at the beginning."""
    if not isinstance(thing, tuple):
        return []
    return [thing + (None,), (None,) + thing] + ([thing[:-1], thing[1:]] if thing else [])


def of_another_kind(thing):
    """Things of other kinds, which nothing has in the place of a part but by fault."""
    others = [None, True, False, -1, 10 ** 59, "", "A", "toolongaword", (), [], {}, ((),), [thing], {"a": thing}]
    return [other for other in others if repr(other) != repr(thing)]


def refusal(error, call, *handed):
    """The refusal by which a call ends; None where it doesn't."""
    try:
        call(*handed)
    except error as refused:
        return refused
    return None


def shown(thing):
    """A thing as a text that tells all of it, of objects what they keep."""
    if isinstance(thing, (list, tuple)):
        return f"{type(thing).__name__}({', '.join(map(shown, thing))})"
    if isinstance(thing, dict):
        return "{" + ", ".join(f"{shown(key)}: {shown(part)}" for key, part in thing.items()) + "}"
    if hasattr(thing, "__dict__") and not callable(thing):
        return f"{type(thing).__name__}{shown(vars(thing))}"
    return repr(thing)


def unchanged(call, *handed, **named):
    """What a call tells, where what it is handed stays as it was."""
    before = shown((handed, named))
    told = call(*handed, **named)
    if before != shown((handed, named)):
        raise AssertionError(f"changed: {before} to {shown((handed, named))}")
    return told


def asked(call, *handed, **named):
    """What a method tells that does nothing: its object, too, stays as it was."""
    before = shown(call.__self__)
    told = unchanged(call, *handed, **named)
    if before != shown(call.__self__):
        raise AssertionError(f"changed: {before} to {shown(call.__self__)}")
    return told


def single_steps(old, row, place):
    """All single steps that write the row's items from a place on, with where each ends: tried one by one."""
    found = []
    for end in range(place + 1, len(row) + 1):
        many = end - place
        found.append((("new", row[place:end]), end))
        for at in range(len(old)):
            if old[at:at + many] == row[place:end]:
                found.append((("old", at, many), end))
        for at in range(place):
            if all(row[at + k] == row[place + k] for k in range(many)):
                found.append((("own", at, many), end))
    return found
