"""The refusals of Quiltyard: one class for each, all below QuiltError."""


class QuiltError(ValueError):
    pass


class BadPicture(QuiltError):
    pass


class BadSystem(QuiltError):
    pass


class BadSize(QuiltError):
    pass


class Unlike(QuiltError):
    pass


class BadText(QuiltError):
    def __init__(self, row):
        QuiltError.__init__(self, f"no system goes on with row {row}")
        self.row = row
