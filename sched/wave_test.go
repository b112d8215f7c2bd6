package sched

import (
	"math"
	"sync"
	"testing"

	"lathe/api"
	"lathe/float"
	"lathe/samples"
)

func holdWave(t *testing.T, x, want api.F) {
	t.Helper()
	if got := Wave(x); got != want {
		t.Errorf("Wave(%08x) = %08x, want %08x", x, got, want)
	}
}

// TestWaveEnds: SC1 and SC2, NaNs, what is below 0 and above 1, the ends and the middle.
func TestWaveEnds(t *testing.T) {
	for _, x := range append(samples.NaNs(), nan) {
		holdWave(t, x, nan)
	}
	for _, x := range []api.F{zero, minus, 0x80000001, 0x807fffff, 0x80800000, 0xbf000000, 0xbf800000, 0xc0490fdb, most | minus, inf | minus} {
		holdWave(t, x, one)
	}
	for _, x := range []api.F{one, 0x3f800001, 0x3fc00000, 0x40000000, 0x40490fdb, most, inf} {
		holdWave(t, x, one|minus)
	}
	holdWave(t, half, zero)
}

// TestWaveValues: SC1, reckoned elsewhere, over another library's binary32.
func TestWaveValues(t *testing.T) {
	for _, c := range [][2]api.F{
		{0x00000001, one}, {0x007fffff, one}, {0x00800000, one}, {0x38000000, one}, {0x387fffff, one}, {0x38800000, one},
		{0x39000000, 0x3f7fffff}, {0x39800000, 0x3f7ffffb}, {0x3a000000, 0x3f7fffec}, {0x3b000000, 0x3f7ffec4}, {0x3c23d70a, 0x3f7fdfa9}, {0x3ccccccd, 0x3f7f35f9},
		{0x3dcccccd, 0x3f737871}, {0x3e000000, 0x3f6c835e}, {0x3e2aaaab, 0x3f5db3d7}, {0x3e4ccccd, 0x3f4f1bbc}, {0x3e800000, 0x3f3504f4}, {0x3e99999a, 0x3f167918},
		{0x3eaaaaab, 0x3efffffe}, {0x3ecccccd, 0x3e9e377a}, {0x3ee66666, 0x3e203060}, {0x3efffffe, 0x34800000}, {0x3effffff, 0x34000000}, {0x3f000000, 0x00000000},
		{0x3f000001, 0xb4800000}, {0x3f000002, 0xb5000000}, {0x3f010ec3, 0xbc54a700}, {0x3f0ccccd, 0xbe203060}, {0x3f19999a, 0xbe9e377e}, {0x3f2aaaab, 0xbf000001},
		{0x3f333333, 0xbf167918}, {0x3f400000, 0xbf3504f4}, {0x3f4ccccd, 0xbf4f1bbd}, {0x3f555555, 0xbf5db3d7}, {0x3f666666, 0xbf737870}, {0x3f7d70a4, 0xbf7fdfa9},
		{0x3f7fff00, 0xbf800000}, {0x3f7ffffe, 0xbf800000}, {0x3f7fffff, 0xbf800000},
		{0x3f670074, 0xbf740c4b}, {0x3cbbcfde, 0x3f7f5616}, {0x3f200351, 0xbec40256}, {0x3e16d7ad, 0x3f65129e}, {0x3f74d0e3, 0xbf7d97b6}, {0x3f311baf, 0xbf111b7c},
		{0x3e63eb8e, 0x3f43ec57}, {0x3f00ec47, 0xbc399180}, {0x3f586f55, 0xbf6269a5}, {0x3f5aa530, 0xbf6591d6}, {0x3f29ada2, 0xbefa9a5c}, {0x3f2373f8, 0xbed7cbe0},
		{0x3f3e0b59, 0xbf309f8b}, {0x3f6a5e40, 0xbf77085b}, {0x3f038593, 0xbd30f800}, {0x3f1d7d5d, 0xbeb5456e}, {0x3f4c5a17, 0xbf4e471e}, {0x3f02bd0e, 0xbd09a040},
		{0x3e5fe972, 0x3f45ef40}, {0x3f149d65, 0xbe80264c}, {0x3eb2db93, 0x3ee96698}, {0x3f36d440, 0xbf1f8b65}, {0x3f3f814d, 0xbf33eaa4}, {0x3f680edb, 0xbf750793}, {0x3eaff044, 0x3ef18680},
	} {
		holdWave(t, c[0], c[1])
	}
}

// faultOfWave tells what is wrong with Wave of a number from 0 to 1, or nothing.
func faultOfWave(x api.F) string {
	got := Wave(x)
	if got != pattern(wantWave(number(x))) {
		return "is not the polynomial"
	}
	value, true64 := float64(number(got)), math.Cos(math.Pi*float64(number(x)))
	switch {
	case !(value >= -1 && value <= 1):
		return "is beyond 1"
	case !(math.Abs(value-true64) < 0x1p-22):
		return "is off the cosine"
	case x > half && Wave(float.Sub(one, x)) != got^minus: // there Sub(One, x) is exact
		return "is not turned round"
	}
	return ""
}

// holdWaves stops at the first fault, for the next ones would be of the same kind.
func holdWaves(t *testing.T, from, to, stride api.F) {
	for x := from; x <= to; x += stride {
		if fault := faultOfWave(x); fault != "" {
			t.Errorf("Wave(%08x) = %08x %s", x, Wave(x), fault)
			return
		}
	}
}

// TestWaveAllOver: SC1 and SC2, numbers from all over from 0 to 1, and those about each power of two, the half and 1.
func TestWaveAllOver(t *testing.T) {
	holdWaves(t, zero, one, 4999)
	holdWaves(t, half-20000, half+20000, 1)
	holdWaves(t, one-20000, one, 1)
	holdWaves(t, zero, 20000, 1)
	for power := api.F(1 << 23); power < one; power += 1 << 23 {
		holdWaves(t, power-10, power+10, 1)
	}
	for x := uint64(0); x < 1<<32; x += 9973 {
		holdWave(t, api.F(x), pattern(wantWave(number(api.F(x)))))
	}
}

// TestEveryWave: SC1 and SC2, every number from 2^-14 to 1. (Below that Wave is 1, and the cosine nearly so.)
func TestEveryWave(t *testing.T) {
	if testing.Short() {
		t.Skip("goes through some 2^27 numbers")
	}
	const from, to = 0x38800000, one
	const share = (to - from) / 64
	var group sync.WaitGroup
	for w := range api.F(64) {
		group.Go(func() { holdWaves(t, from+w*share, from+(w+1)*share, 1) })
	}
	group.Wait()
}

// TestWaveTurnedRound: SC2, wherever Sub(One, x) is exact, not only above the half.
func TestWaveTurnedRound(t *testing.T) {
	exact := 0
	g := &grower{samples.Source(22)}
	for i := range 200000 {
		x := api.F(uint32(g.Next()) % uint32(one+1))
		if i%2 == 0 {
			x = pattern(float32(g.below(1<<24)) / (1 << 24))
		}
		turned := float.Sub(one, x)
		if x == half || x < half && float.Sub(one, turned) != x { // from a half to 1 that is exact itself
			continue
		}
		exact++
		if a, b := Wave(x), Wave(turned); b != float.Neg(a) {
			t.Errorf("Wave(%08x) = %08x, Wave(%08x) = %08x", x, a, turned, b)
		}
	}
	if exact < 50000 {
		t.Errorf("%d numbers were tried", exact)
	}
}
