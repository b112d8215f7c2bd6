package verify

import (
	"strings"
	"testing"

	"lathe/api"
	"lathe/ir"
	"lathe/samples"
)

// wantWidth is the width of a type over a signature.
func wantWidth(is api.Type, sign []api.Param) int { return samples.Width(is, sign) }

// wantWeigh is what an instruction costs.
func wantWeigh(c api.Code, i api.Inst) int { return samples.Cost(c, i) }

func wantCost(c api.Code) int {
	cost := 0
	for _, i := range c.List {
		cost += wantWeigh(c, i)
	}
	return cost
}

// wantRoom is the room, reckoned type by type.
func wantRoom(c api.Code) int {
	count := map[api.Type]int{}
	for _, is := range c.Regs {
		count[is]++
	}
	for _, s := range c.Slots {
		count[s.Type]++
	}
	room := 0
	for is, n := range count {
		room += n * wantWidth(is, c.Sign)
	}
	return room
}

// hold: VE1 to VE3, all that is told of code, which is not great. It answers whether the code is well formed.
func hold(t *testing.T, c api.Code) bool {
	t.Helper()
	if e, _ := ir.Check(c); e != api.OK {
		holdRefused(t, c, e)
		return false
	}
	cost := wantCost(c)
	holdTaken(t, c, cost, wantRoom(c), api.OK)
	holdNoPlace(t, c, errArg)
	sum := 0
	for place, i := range c.List {
		holdWeigh(t, c, place, wantWeigh(c, i), api.OK)
		one, _ := Weigh(c, place)
		if one < 1 || one > maxLen {
			t.Errorf("Weigh(%d) = %d: %s", place, one, samples.Show(c))
		}
		sum += one
	}
	if sum != cost || cost > maxLen*len(c.List) {
		t.Errorf("Cost = %d, of %d instructions that cost %d: %s", cost, len(c.List), sum, samples.Show(c))
	}
	return true
}

// TestTable: what the tests are led by has a word for each Op.
func TestTable(t *testing.T) {
	if len(samples.Costs()) != 37 || len(samples.Names()) != 37 {
		t.Fatalf("%d, %d", len(samples.Costs()), len(samples.Names()))
	}
	for n, word := range samples.Costs() {
		if word == "D" != (ir.Elementwise(n+1) || strings.Contains(" Grad Param Load ", " "+samples.Names()[n]+" ")) {
			t.Errorf("%s costs %s", samples.Names()[n], word)
		}
		if word == "A" != strings.Contains(" Out Store Sum Least ", " "+samples.Names()[n]+" ") || word == "62" != (n+1 == api.OpPower) {
			t.Errorf("%s costs %s", samples.Names()[n], word)
		}
	}
}
