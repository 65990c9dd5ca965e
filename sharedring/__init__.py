"""A ring of messages shared with a device that may write anything."""
