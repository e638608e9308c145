"""Pages read strictly."""
