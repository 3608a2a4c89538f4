"""The phases of clients and readers (points 46 to 48)."""

NEW = "new"
READING = "reading"
PREPARING = "preparing"
COMMITTING = "committing"
WAITING = "waiting"
ENDED = "ended"
