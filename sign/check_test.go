package sign

import (
	"slices"
	"strings"
	"testing"

	"lathe/api"
)

// holdAlone: a parameter may be by itself, or may not; Check, Print and Numbers tell it alike, alone and behind others.
func holdAlone(t *testing.T, p api.Param, mayBe bool) {
	t.Helper()
	e, numbers := api.ErrParam, 0
	if mayBe {
		e, numbers = api.OK, p.Len*p.Kind // a complex element is two
	}
	holdCheck(t, list(p), e)
	holdCheck(t, append(several(3, kindReal, 1), p), e)
	holdCheck(t, append(list(p), several(3, kindComplex, 2)...), e)
	if n := Numbers(p); n != numbers {
		t.Errorf("Numbers of %s: %d, not %d", dump(list(p)), n, numbers)
	}
}

// TestNameBytes: SG1 and SG4, each byte as a name, and at the beginning, within and at the end of one.
func TestNameBytes(t *testing.T) {
	const allowed = "ABCDEFGHIJKLMNOPQRSTUVWXYZabcdefghijklmnopqrstuvwxyz0123456789_./-"
	for b := range 256 {
		c := string([]byte{byte(b)})
		mayBe := strings.Contains(allowed, c)
		for _, name := range []string{c, c + "w", "w" + c, "w" + c + "w", c + c, strings.Repeat("w", maxName-1) + c, c + strings.Repeat("w", maxName-1)} {
			holdAlone(t, is(name, kindReal, 1), mayBe)
		}
	}
	for _, name := range []string{allowed[:33], allowed[33:], "-", "..", "//", "0", "-1", "real", "complex", "a.b/c_d-E9"} {
		holdAlone(t, is(name, kindComplex, 7), true)
	}
	for _, name := range []string{"é", "wé", "\u00a0", "w\u212a", "\ufeffw", "\xff", "w real", "w\n", "#", "#w"} {
		holdAlone(t, is(name, kindReal, 7), false)
	}
}

// TestNameLengths: SG1 and SG4, names of no byte, of one, of MaxName and of more.
func TestNameLengths(t *testing.T) {
	for n := range 3 * maxName {
		holdAlone(t, is(strings.Repeat("n", n), kindReal, 2), n >= 1 && n <= maxName)
	}
	for _, n := range []int{maxLen, maxSource, 1 << 20} {
		holdAlone(t, is(strings.Repeat("n", n), kindReal, 2), false)
	}
}

// TestKinds: SG1 and SG4, KindReal and KindComplex and no other kind.
func TestKinds(t *testing.T) {
	for kind := -300; kind <= 300; kind++ {
		holdAlone(t, is("w", kind, 5), kind == 1 || kind == 2)
	}
	for _, kind := range []int{minInt, minInt + 1, minInt + 2, maxInt, 1 << 32, 1<<32 + 1, 1<<32 + 2, -1 << 31} {
		holdAlone(t, is("w", kind, 5), false)
	}
}

// TestLens: SG1 and SG4, Len from 1 to MaxLen and no other, for a complex parameter too.
func TestLens(t *testing.T) {
	for _, kind := range []int{kindReal, kindComplex} {
		for n := -10; n <= 2*maxLen+10; n++ {
			holdAlone(t, is("w", kind, n), n >= 1 && n <= maxLen)
		}
		for _, n := range []int{minInt, minInt + 1, minInt/2 + 1, maxInt, maxInt/2 + 1, 1<<32 + 1, 1 << 31, maxTotal} {
			holdAlone(t, is("w", kind, n), false)
		}
	}
}

// TestHowMany: SG1, signatures of no parameter, of one, of MaxParams and of more.
func TestHowMany(t *testing.T) {
	holdCheck(t, nil, api.OK)
	holdCheck(t, []api.Param{}, api.OK)
	for n := range 3 * maxParams {
		want := api.OK
		if n > maxParams {
			want = api.ErrLong
		}
		holdCheck(t, several(n, kindReal, 1), want)
		holdCheck(t, several(n, kindComplex, 2), want)
	}
	holdCheck(t, several(1<<16, kindReal, 1), api.ErrLong)
}

// TestTwice: SG1, a name that stands twice, at all pairs of places, whatever else the two have.
func TestTwice(t *testing.T) {
	for i := range maxParams {
		for j := range i {
			all := several(maxParams, kindReal, 1+i)
			all[i].Name = all[j].Name
			holdCheck(t, all, api.ErrTwice)
			all[i].Kind, all[j].Len = kindComplex, 3
			holdCheck(t, all, api.ErrTwice)
		}
	}
	holdCheck(t, list(is("w", kindReal, 1), is("w", kindReal, 1)), api.ErrTwice)
	holdCheck(t, list(is("w", kindReal, 1), is("v", kindReal, 1), is("w", kindReal, 1), is("v", kindReal, 1)), api.ErrTwice)
	// Names that are near to each other are still two.
	holdCheck(t, list(is("w", kindReal, 1), is("W", kindReal, 1), is("w/", kindReal, 1), is("ww", kindReal, 1), is("/w", kindReal, 1), is("w-", kindReal, 1), is("w.", kindReal, 1), is("w_", kindReal, 1)), api.OK)
	long := strings.Repeat("n", maxName-1)
	holdCheck(t, list(is(long, kindReal, 1), is(long+"a", kindReal, 1), is(long+"b", kindReal, 1)), api.OK)
}

// TestTotals: SG1 and SG4, MaxTotal numbers in all and one more, of real and complex parameters.
func TestTotals(t *testing.T) {
	one := is("one", kindReal, 1)
	for _, full := range [][]api.Param{
		several(16, kindReal, maxLen),
		several(8, kindComplex, maxLen),
		several(64, kindReal, 1024)[:63],
		several(32, kindComplex, 1024),
		append(several(4, kindComplex, maxLen), is("a", kindReal, maxLen), is("b", kindReal, maxLen), is("c", kindReal, maxLen), is("d", kindComplex, maxLen), is("e", kindReal, maxLen), is("f", kindReal, maxLen), is("g", kindReal, maxLen)),
	} {
		if missing := maxTotal - Total(full); missing > 0 {
			full = append(full, is("rest", kindReal, missing))
		}
		if n := Total(full); n != maxTotal {
			t.Errorf("Total of %s: %d", brief(dump(full)), n)
		}
		holdCheck(t, full, api.OK)
		last := len(full) - 1
		full[last].Len--
		holdCheck(t, full, api.OK)
		full[last].Len++
		if len(full) < maxParams {
			holdCheck(t, append(slices.Clone(full), one), api.ErrTotal)
			holdCheck(t, append(list(one), full...), api.ErrTotal)
		}
	}
	full := several(64, kindReal, 1024)
	holdCheck(t, full, api.OK)
	full[17].Len++
	holdCheck(t, full, api.ErrTotal)
	holdCheck(t, several(64, kindComplex, maxLen), api.ErrTotal)
}

// TestOrderOfErrors: SG1, of two and more errors at once the first that Check names, wherever they stand.
func TestOrderOfErrors(t *testing.T) {
	wrong := []api.Param{is("", kindReal, 1), is("a b", kindReal, 1), is("x", 0, 1), is("x", 3, 1), is("x", kindReal, 0), is("x", kindComplex, maxLen+1), is("", 0, -1)}
	twice := list(is("w", kindReal, 1), is("w", kindReal, 1))
	heavy := several(17, kindReal, maxLen)
	long := several(maxParams+1, kindReal, 1)
	for _, p := range wrong {
		bad := list(p)
		for _, all := range [][]api.Param{
			slices.Concat(bad, twice), slices.Concat(twice, bad), slices.Concat(bad, heavy), slices.Concat(heavy, bad),
			slices.Concat(twice, heavy, bad), slices.Concat(heavy, bad, twice), slices.Concat(bad, bad), slices.Concat(bad, heavy, bad, twice),
		} {
			holdCheck(t, all, api.ErrParam)
			holdCheck(t, slices.Concat(all, long), api.ErrLong)
			holdCheck(t, slices.Concat(long, all), api.ErrLong)
		}
	}
	holdCheck(t, slices.Concat(twice, heavy), api.ErrTwice)
	holdCheck(t, slices.Concat(heavy, twice), api.ErrTwice)
	holdCheck(t, slices.Concat(heavy, heavy), api.ErrTwice)
	holdCheck(t, slices.Concat(long, twice), api.ErrLong)
	holdCheck(t, slices.Concat(long[1:], twice[:1]), api.ErrLong)
	holdCheck(t, several(maxParams+1, kindReal, maxLen), api.ErrLong)
	holdCheck(t, several(maxParams+1, 0, 1), api.ErrLong)
	holdCheck(t, several(maxParams, 0, 1), api.ErrParam)
	// What may not be has no numbers: it does not weigh, and is told first.
	holdCheck(t, append(several(16, kindReal, maxLen), is("x", kindReal, maxInt)), api.ErrParam)
}
