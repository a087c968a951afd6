"""A proxy reward monitor: two reward tables over one decision process."""
