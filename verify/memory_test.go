package verify

import (
	"sync"
	"testing"

	"lathe/api"
	"lathe/ir"
	"lathe/samples"
)

// told is all that the calls tell of code, of each place too.
type told struct {
	check, costError, roomError, weighError api.Errno
	cost, room                              int
	weights                                 string
}

func tell(c api.Code) told {
	var x told
	x.check = Check(c)
	x.cost, x.costError = Cost(c)
	x.room, x.roomError = Room(c)
	for place := -1; place <= min(len(c.List), 60); place++ {
		weight, e := Weigh(c, place)
		x.weights += string(rune('A' + weight))
		x.weighError += e
	}
	return x
}

// TestCodeStays: rule 3, no argument is changed, its spare room neither, and what stands there is not asked.
func TestCodeStays(t *testing.T) {
	g := &samples.Grower{Source: 41}
	codes := samples.Broken()
	for range 2000 {
		codes = append(codes, g.Code(40))
	}
	codes = append(codes, holding(1, []int{4096}, []int{5000}, []int{10}))
	for _, c := range codes {
		want := tell(samples.CloneCode(c))
		handed := samples.RoomyCode(c)
		before := samples.OpenedCode(handed)
		if got := tell(handed); got != want {
			t.Fatalf("%v became %v: %s", want, got, samples.Show(c))
		}
		if !ir.Equal(samples.OpenedCode(handed), before) {
			t.Fatalf("%s was changed", samples.Show(c))
		}
	}
}

// TestNothingIsKept: rule 4, the calls tell the same again, whatever came ahead of them, also of code that was changed in between.
func TestNothingIsKept(t *testing.T) {
	good, bad, wide := samples.EveryOp(), usual("Neg D0 A0"), holding(1, []int{4096}, []int{4097}, []int{0})
	cost, room := wantCost(good), wantRoom(good)
	g, broken := &samples.Grower{Source: 42}, samples.Broken()
	for n := range 500 {
		tell(g.Code(20))
		tell(broken[n%len(broken)])
		holdTaken(t, good, cost, room, api.OK)
		holdRefused(t, bad, errCode)
		holdTaken(t, wide, 0, 4097*maxLen, errRoom)
		holdWeigh(t, good, 15, 62, api.OK)
	}
	c := samples.CloneCode(good)
	holdTaken(t, c, cost, room, api.OK)
	c.Sign[0].Len = 100 // of w there are Grad, Sum, Least, Load and Store
	holdTaken(t, c, cost+5*97, room+6*97, api.OK)
	c.List[15] = c.List[0]
	holdTaken(t, c, cost+5*97-61, room+6*97, api.OK)
	c.Regs[8] = api.Type{Kind: 1}
	holdRefused(t, c, errCode)
	holdTaken(t, good, cost, room, api.OK)
}

// TestSideBySide: rule 4, calls that go on at the same time tell what they tell by themselves.
func TestSideBySide(t *testing.T) {
	g := &samples.Grower{Source: 43}
	var group sync.WaitGroup
	for n := range 20 {
		c := g.Code(60)
		if n%4 == 0 {
			c = samples.Broken()[n]
		}
		want := tell(c)
		for range 4 {
			group.Go(func() {
				for range 20 {
					if got := tell(c); got != want {
						t.Errorf("%v became %v: %s", want, got, samples.Show(c))
					}
				}
			})
		}
	}
	group.Wait()
}
