"""The refusals of the package, one class for each kind."""


class PortError(ValueError):
    """Any refusal."""


class BadSite(PortError):
    """What was handed in is no site, or not so many sites as there may be."""


class BadRules(PortError):
    """What was handed in is no rules."""


class BadNow(PortError):
    """What was handed in is no moment, or one ahead of an earlier one."""


class BadKey(PortError):
    """What was handed in is no key of the rules."""


class BadWorth(PortError):
    """What was handed in is no worth."""


class BadToken(PortError):
    """What was handed in is no token, or one of another number of sites."""


class BadCount(PortError):
    """A count is out of its bounds, or would come to be."""


class BadWants(PortError):
    """What was handed in is no wants."""


class NotYet(PortError):
    """A token stands for puts that aren't applied: `lacks` is the first such (site, number) of each site."""

    def __init__(self, lacks):
        super().__init__(f"not applied yet: {lacks}")
        # A copy, because whoever handed the list in may change it later.
        self.lacks = list(lacks)


class Stale(PortError):
    """A site may be staler than was asked for: `by` is how many moments at the most, or None."""

    def __init__(self, by):
        super().__init__(f"may be stale by {by}")
        self.by = by


class BadLogs(PortError):
    """What was handed in is no logs: `site` and `row` tell of the first row that is no put by its form."""

    def __init__(self, site, row):
        super().__init__(f"no log: site {site}, row {row}")
        self.site = site
        self.row = row


class BadText(PortError):
    """A text can't be read: `row` is the first row that is none by its words."""

    def __init__(self, row):
        super().__init__(f"not to be read: row {row}")
        self.row = row
