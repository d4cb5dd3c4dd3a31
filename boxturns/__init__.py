"""A language of actors: boxturns.actors.answers(calls) answers a line of calls about one world."""
