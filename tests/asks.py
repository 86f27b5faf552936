"""What several tests ask of a function."""


def plain(thing):
    """A text of the thing, which tells apart what == does not, as True and 1."""
    return repr(thing)


def stays(case, function, *handed):
    """Call the function, look that nothing handed in has changed, and give what was told."""
    before = plain(handed)
    told = function(*handed)
    case.assertEqual(plain(handed), before)
    return told


def refuses(case, error, function, *handed):
    """Look that the function refuses with the error, and that nothing handed in has changed."""
    before = plain(handed)
    with case.assertRaises(error):
        function(*handed)
    case.assertEqual(plain(handed), before)
