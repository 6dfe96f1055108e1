"""The record: a cartoon of glass panes that grows by steps."""
