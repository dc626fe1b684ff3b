"""Works, crews and a crane: crewscrane.sites.answers(calls) answers the calls on one site."""
