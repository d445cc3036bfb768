"""What's learnt before what: rules of learning, and the states they lead to."""
