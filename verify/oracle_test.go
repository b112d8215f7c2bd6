package verify

import (
	"strings"
	"testing"

	"lathe/api"
	"lathe/ir"
	"lathe/samples"
)

// costs are the chapter's table, of Op 1 the first: a number, or the register whose width it is.
func costs() []string {
	return strings.Fields("1 1 D D D D D D D D D D D D D 62 1 1 A A 1 1 1 1 1 1 1 1 D D A D A 1 1 1 1")
}

// wantWidth is the width of a type over a signature, by the chapter's words.
func wantWidth(is api.Type, sign []api.Param) int {
	return []int{1: 1, 2: 1, 3: append(sign, api.Param{})[is.Param].Len}[is.Kind]
}

// wantWeigh is what an instruction costs, by the chapter's table.
func wantWeigh(c api.Code, i api.Inst) int {
	switch costs()[i.Op-1] {
	case "1":
		return 1
	case "62":
		return 62
	case "D":
		return wantWidth(c.Regs[i.D], c.Sign)
	}
	return wantWidth(c.Regs[i.A], c.Sign)
}

func wantCost(c api.Code) int {
	cost := 0
	for _, i := range c.List {
		cost += wantWeigh(c, i)
	}
	return cost
}

// wantRoom is the room, reckoned type by type.
func wantRoom(c api.Code) int {
	count := map[api.Type]int{}
	for _, is := range c.Regs {
		count[is]++
	}
	for _, s := range c.Slots {
		count[s.Type]++
	}
	room := 0
	for is, n := range count {
		room += n * wantWidth(is, c.Sign)
	}
	return room
}

// hold: VE1 to VE3, all that is told of code, which is not great. It answers whether the code is well formed.
func hold(t *testing.T, c api.Code) bool {
	t.Helper()
	if e, _ := ir.Check(c); e != api.OK {
		holdRefused(t, c, e)
		return false
	}
	cost := wantCost(c)
	holdTaken(t, c, cost, wantRoom(c), api.OK)
	holdNoPlace(t, c, errArg)
	sum := 0
	for place, i := range c.List {
		holdWeigh(t, c, place, wantWeigh(c, i), api.OK)
		one, _ := Weigh(c, place)
		if one < 1 || one > maxLen {
			t.Errorf("Weigh(%d) = %d: %s", place, one, samples.Show(c))
		}
		sum += one
	}
	if sum != cost || cost > maxLen*len(c.List) {
		t.Errorf("Cost = %d, of %d instructions that cost %d: %s", cost, len(c.List), sum, samples.Show(c))
	}
	return true
}

// TestTable: what the tests are led by has a word for each Op.
func TestTable(t *testing.T) {
	if len(costs()) != 37 || len(samples.Names()) != 37 {
		t.Fatalf("%d, %d", len(costs()), len(samples.Names()))
	}
	for n, word := range costs() {
		if word == "D" != (ir.Elementwise(n+1) || strings.Contains(" Grad Param Load ", " "+samples.Names()[n]+" ")) {
			t.Errorf("%s costs %s", samples.Names()[n], word)
		}
		if word == "A" != strings.Contains(" Out Store Sum Least ", " "+samples.Names()[n]+" ") || word == "62" != (n+1 == api.OpPower) {
			t.Errorf("%s costs %s", samples.Names()[n], word)
		}
	}
}
