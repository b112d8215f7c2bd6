package check

import (
	"lathe/api"
	"lathe/bits"
)

// stands tells whether a number stands from low to high in the order of patterns. There -0 is just below +0, so what
// begins with 0 begins with -0.
func stands(low, x, high api.F) bool {
	key, ok := bits.Key(x)
	least, _ := bits.Key(low)
	most, _ := bits.Key(high)
	return ok && least <= key && key <= most
}

func greatest() api.F { return bits.Prev(api.Inf) }

func anyNumber(x api.F) bool { return stands(bits.Next(api.Minus|api.Inf), x, greatest()) }

func fromZero(x api.F) bool { return stands(api.Minus, x, greatest()) }

func aboveZero(x api.F) bool { return stands(bits.Next(api.Zero), x, greatest()) }

func zeroToOne(x api.F) bool { return stands(api.Minus, x, api.One) }

func belowOne(x api.F) bool { return stands(api.Minus, x, bits.Prev(api.One)) }

// between is the range of whole numbers from low to high.
func between(low, high int) func(n, ahead int) bool {
	return func(n, _ int) bool { return low <= n && n <= high }
}

// rises is the range of boundaries: from 1 on, each above the one ahead of it.
func rises(n, ahead int) bool { return ahead < n && n <= api.MaxCount }
