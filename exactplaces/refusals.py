"""The refusals, one error class each, and how they become answers."""


class WrongInput(Exception):
    pass


class NotThere(Exception):
    pass


# Each call reads all that is handed in before it reckons, so that
# WrongInput is raised ahead of any other refusal.
def answered(work):
    try:
        return work()
    except WrongInput:
        return [-8]
    except NotThere:
        return [-5]
