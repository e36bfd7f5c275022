"""Tells whether a build of parts can be put together, part after part, straight down."""
