"""Forcedsteer: works that can be steered, however strong their ties are."""
