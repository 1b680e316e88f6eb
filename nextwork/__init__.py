"""Nextwork: which work to go on with."""
