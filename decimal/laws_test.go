package decimal

import (
	"math"
	"math/big"
	"math/rand/v2"
	"slices"
	"strconv"
	"strings"
	"testing"

	"lathe/api"
)

// TestThereAndBack: D4: what Shortest answers is a decimal with a point or an exponent, and is read as the same pattern.
func TestThereAndBack(t *testing.T) {
	hold := func(a api.F) {
		s, e := Shortest(a)
		if e != api.OK || !form.MatchString(s) || !strings.ContainsAny(s, ".e") {
			t.Errorf("Shortest(%08x) = %q, %d", a, s, e)
		}
		holdParse(t, s, a, api.OK)
	}
	for _, a := range append(spread(), 0) {
		hold(a)
		hold(a | minus)
	}
	for a := api.F(0); a <= greatest; a += 65521 {
		hold(a)
		hold(a | minus)
	}
}

// TestOrder: D4: decimals by rising value give numbers that do not fall; about halves and edges, where values lie closer than numbers do.
func TestOrder(t *testing.T) {
	texts := []string{"0", "-0", "0.0", "-0.0", "1", "1.0", "10e-1", "-1e-60", "1e-60", "-1e-46", "1e-46"}
	numbers := rand.New(rand.NewPCG(3, 2))
	for range 300 {
		half := halfway(api.F(numbers.Uint32N(uint32(greatest))))
		for range 6 {
			digits := strconv.Itoa(numbers.IntN(1000000))
			text := half.FloatString(numbers.IntN(160)) // rounded here or there, to either side
			if strings.Contains(text, ".") {
				text += digits
			} else {
				text += "." + digits
			}
			texts = append(texts, text, "-"+text)
		}
	}
	for range 300 {
		text := strconv.Itoa(numbers.IntN(20000)-10000) + "." + strconv.Itoa(numbers.IntN(1000)) + "e" + strconv.Itoa(numbers.IntN(80)-48)
		texts = append(texts, text)
	}
	type read struct {
		s     string
		value *big.Rat
		a     api.F
	}
	var all []read
	for _, s := range texts {
		if a, e := Parse(s); e == api.OK {
			all = append(all, read{s, valueOf(t, s), a})
		} else if e != api.ErrGreat {
			t.Errorf("Parse(%q): %d", s, e)
		}
	}
	if len(all) < len(texts)*9/10 {
		t.Errorf("%d of %d texts were read", len(all), len(texts))
	}
	slices.SortFunc(all, func(x, y read) int { return x.value.Cmp(y.value) })
	for i, y := range all[1:] {
		x := all[i]
		low, high := math.Float32frombits(uint32(x.a)), math.Float32frombits(uint32(y.a))
		if low > high || x.value.Cmp(y.value) == 0 && low != high {
			t.Errorf("Parse(%q) = %08x, Parse(%q) = %08x", x.s, x.a, y.s, y.a)
		}
	}
}
