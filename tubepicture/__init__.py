"""Pictures of what shines."""
