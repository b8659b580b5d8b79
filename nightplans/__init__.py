"""Plans of observations for a night, computed with whole numbers alone."""
