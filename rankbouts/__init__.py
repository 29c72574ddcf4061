"""A day's bouts: who meets whom in a tournament of up to eight wrestlers."""
