"""Things of any kind, to be handed in where anything may be. None of them is a house."""


def deep(many):
    thing = 0
    for _ in range(many):
        thing = (thing,)
    return thing


def deep_list(many):
    thing = []
    for _ in range(many):
        thing = [thing]
    return thing


ANYTHING = (
    None, True, False, 0, 1, -1, 99, 10 ** 59, -(10 ** 59), "", "a", "ab", "(1, 2)", "\u00e9",
    (), (None,), (True,), (False, False), (0,), (1, 2), (0, 0, 0, 0), ((),), ((), ()), (((),),),
    ((0,),), ((((0,),),),), (((None,),),), ((("a",),),), ("abc",), (("abc",),), (((1,), "a"),),
    [], [0], [[]], [[[0]]], [(1, 2)], ([0],), (([0],),), ([(0,)],), ((([0],),),),
    {}, {0: 1}, {(0,): (1, 0)}, ({},), (({},),), ((({},),),), [{"a": [1, None, True]}],
    deep(20), deep_list(20), tuple(range(1000)), list(range(1000)), ((0,),) * 500,
    (((0,), (0,)), 7), (((0,), None),), (((0,), 5),), (((0, 1), (0, "1")),),
)
