"""The refusals, one error class each, and how they become answers."""


class WrongInput(Exception):
    pass


class NotThere(Exception):
    pass


class CantBeTold(Exception):
    pass


# Each call reads all that is handed in, then reckons all of it exactly, and
# only then tells: so WrongInput is raised ahead of NotThere, and that ahead
# of CantBeTold.
def answered(work):
    try:
        return work()
    except WrongInput:
        return [-8]
    except NotThere:
        return [-5]
    except CantBeTold:
        return [-7]
