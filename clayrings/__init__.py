"""A collection of cylinder seals, and of the pieces of clay that they were rolled over."""
