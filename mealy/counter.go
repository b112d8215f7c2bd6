package mealy

import "lathe/api"

// on is a count one further. It stays at MaxCount, so that a machine goes on however long it has run.
func on(count int) int { return min(count+1, api.MaxCount) }

// A counter is a count that Jump sets.
type counter struct{ count int }

func (c *counter) countOn() { c.count = on(c.count) }

func (c *counter) jump(count int) { c.count = count }

// uncounted stands in a kind that keeps no count: a jump says nothing to it.
type uncounted struct{}

func (uncounted) jump(int) {}
