"""Guildvote: a sign chosen by ballots in rounds."""
