"""Pictures as quarters of quarters."""
