"""The numbers with which a call is refused."""

NOT_AS_TOLD = -22
TOO_MANY = -28
NO_MESSAGE = -71
