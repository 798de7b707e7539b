"""WEB PAPERS, written for their checker."""

from threelays.webs import web_rows


def web_paper(field):
    """Tell a WEB PAPER of a FIELD."""
    return tuple(web_rows(field))
