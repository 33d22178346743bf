"""The refusals of a call, one error each."""


class WrongInput(Exception):
    pass


class NotOneToOne(Exception):
    pass


class DoesNotFit(Exception):
    pass
