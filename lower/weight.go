package lower

import "lathe/api"

// weigh is the weight of a transform that works on those pieces, with all that is in it.
func weigh(t *api.Tx, g []piece) int {
	weight := 1
	for _, a := range g {
		weight += len(a.parts)
	}
	if t.Op == api.TxSchedule {
		weight += weighSchedule(&t.Sched)
	}
	for i := range t.Kids {
		weight += weigh(&t.Kids[i], inner(t, i, g))
	}
	return weight
}

func weighSchedule(s *api.Sched) int {
	weight := 1 + len(s.Ints)
	for i := range s.Kids {
		weight += weighSchedule(&s.Kids[i])
	}
	return weight
}
