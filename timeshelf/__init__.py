"""Timeshelf: an archive of texts that change, asked for all times at once."""
