"""Values that several tests need."""


def any_values():
    """Values of many kinds, none of which is a name, a number, a point, a direction, a part or a way."""
    return [
        None, True, False, '', 'A', 'a b', 'toolong', '-', '7', 'a\n',
        (), (None,), (None, None), ('a', 'b'), ((), ()), ((((((((1,),),),),),),),),
        [], [0, 1], [[0, 1], [1, 0]], [(0, 0), (1, 0)], {}, {'a': 1}, {0: 0, 1: 1}, [{}], ({}, []),
        (True, False), (1, True), (False, 1), (True, 1), (0, 0, 1), (0,), ((0, 0),), ((0, 0), (0, 0)),
        ((0, 0), None), (None, (1, 0)), ([0, 0], (1, 0)), ((0, 0), [1, 0]), ((0, 0), (1, 0), 0), '0 1', (1, '0'),
    ]


def code_and_values(error):
    """The code of an error and its other attributes."""
    values = dict(vars(error))
    code = values.pop('code')
    return code, values


def caught(call, *args, **named):
    """The code and the attributes of the error that a call raises, or None if it raises none."""
    try:
        call(*args, **named)
    except Exception as error:
        if not hasattr(error, 'code'):
            raise
        return code_and_values(error)
    return None
