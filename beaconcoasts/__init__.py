"""A chart of lights and coasts, and what is seen from where."""
