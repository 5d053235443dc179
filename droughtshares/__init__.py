"""Water shared in a drought."""
