"""Hoists of signal flags, out of a locker told by its text: what they mean, and which rows of signs they show."""
