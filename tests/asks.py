"""What several tests ask of a function."""


def plain(thing):
    """A text of the thing, which tells apart what == does not, as True and 1."""
    return repr(thing)


def stays(case, function, *handed):
    """Call the function, look that nothing handed in has changed, and give what was told."""
    before = plain(handed)
    told = function(*handed)
    case.assertEqual(plain(handed), before)
    return told


def refuses(case, error, function, *handed):
    """Look that the function refuses with the error, and that nothing handed in has changed."""
    before = plain(handed)
    with case.assertRaises(error):
        function(*handed)
    case.assertEqual(plain(handed), before)


def lists_in(told):
    """All lists in what was told, the outermost one first."""
    found = [told] if isinstance(told, list) else []
    if isinstance(told, (list, tuple)):
        for thing in told:
            found += lists_in(thing)
    return found


def are_own(case, *things):
    """Look that no list stands in two places of what was told and handed in."""
    lists = lists_in(things)
    case.assertEqual(len({id(one) for one in lists}), len(lists), things)


def spoil(told):
    """Change every list in what was told."""
    for one in lists_in(told):
        one.append("spoilt")
        one.reverse()
