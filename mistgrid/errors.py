"""The refusals, each straight under MistError."""


class MistError(ValueError):
    """Any refusal."""


class NoLevel(MistError):
    """A level that its ladder has not, or not a level for each ladder."""


class NoWorld(MistError):
    """No world fits."""


class NoDesk(MistError):
    """No desk can be made of what was handed in."""


class NoText(MistError):
    """A text that cannot be read; row is the number of its first wrong row, from 1."""

    def __init__(self, row):
        super().__init__(f"wrong from row {row} on")
        self.row = row


class Unsafe(MistError):
    """A coarsening that is not safe; keys_told are the keys of the groups that are not good."""

    def __init__(self, keys_told):
        super().__init__("too many rows stand in groups that are not good")
        self.keys_told = keys_told


class Tells(MistError):
    """A release that would tell too much of a person, who then may have just the secrets."""

    def __init__(self, person, secrets):
        super().__init__(f"too much would be known of {person}")
        self.person = person
        self.secrets = secrets
