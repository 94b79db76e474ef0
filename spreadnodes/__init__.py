"""Spread over nodes: a document spread so that any k nodes tell it and any d others make a lost one again."""
