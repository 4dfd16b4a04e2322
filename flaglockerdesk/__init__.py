"""Lockers of signal flags: the calls are in flaglockerdesk.locker."""
