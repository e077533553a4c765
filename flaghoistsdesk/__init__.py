"""Hoists of signal flags: what they mean, out of a locker told by its text."""
