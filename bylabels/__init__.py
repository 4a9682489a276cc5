"""A router that goes by labels."""
