package sched

import (
	"fmt"
	"math"
	"strings"

	"lathe/api"
)

// The chapter's words once more, over Go's own float32, and with letters for what a row has: nothing of the package, nor of
// package float, stands here.

// number is what a pattern means.
func number(a api.F) float32 { return math.Float32frombits(uint32(a)) }

// pattern is a number's bits, a NaN's those of the only one that is told.
func pattern(x float32) api.F {
	if x != x {
		return nan
	}
	return api.F(math.Float32bits(x))
}

// valueHalf is half a whole number.
func valueHalf(n int) api.F { return pattern(float32(n) / 2) }

// brief is a schedule, or the beginning of a long one.
func brief(s api.Sched) string {
	text := fmt.Sprintf("%x", s)
	if len(text) > 200 {
		return text[:200] + ".."
	}
	return text
}

// letters of what a row has: numbers n, above 0 r; powers p, steps s, begins b, boundaries t; schedules k.
func letters(s api.Sched) string {
	switch k := len(s.Ints); s.Op {
	case 1:
		return "n"
	case 2:
		return "nnpsb"
	case 3:
		return "nrsb"
	case 4:
		return "nns"
	case 5:
		return "nnt" + strings.Repeat("nt", max(k-1, 0))
	case 6:
		return "ktk" + strings.Repeat("tk", max(k-1, 0))
	case 7:
		return "ns"
	case 8, 9, 10, 11:
		return "kk"
	case 12, 13:
		return "bk"
	}
	return "none"
}

// among are those of a text's letters that are in a set.
func among(text, set string) string {
	return strings.Map(func(c rune) rune {
		if strings.ContainsRune(set, c) {
			return c
		}
		return -1
	}, text)
}

// wantMayBe tells whether a schedule may be.
func wantMayBe(s api.Sched) bool {
	return depthOf(s) <= 64 && countOf(s) <= 4096 && allFit(s)
}

func depthOf(s api.Sched) int {
	depth := 0
	for _, k := range s.Kids {
		depth = max(depth, depthOf(k))
	}
	return depth + 1
}

func countOf(s api.Sched) int {
	count := 1
	for _, k := range s.Kids {
		count += countOf(k)
	}
	return count
}

func allFit(s api.Sched) bool {
	row := letters(s)
	nums, ints, kids := among(row, "nr"), among(row, "psbt"), among(row, "k")
	if row == "none" || len(nums) != len(s.Nums) || len(ints) != len(s.Ints) || len(kids) != len(s.Kids) {
		return false
	}
	for i, a := range s.Nums {
		if x := float64(number(a)); math.IsNaN(x) || math.IsInf(x, 0) || nums[i] == 'r' && !(x > 0) {
			return false
		}
	}
	for i, n := range s.Ints {
		low, high := 1, 1<<31-1
		switch {
		case ints[i] == 'b':
			low = 0
		case ints[i] == 'p':
			high = 1024
		case ints[i] == 't' && i > 0:
			low = s.Ints[i-1] + 1
		}
		if n < low || high < n {
			return false
		}
	}
	for _, k := range s.Kids {
		if !allFit(k) {
			return false
		}
	}
	return true
}

// wantValue is the value of a schedule that may be.
func wantValue(s api.Sched, n int) float32 {
	var x []float32
	for _, a := range s.Nums {
		x = append(x, number(a))
	}
	switch s.Op {
	case 1:
		return x[0]
	case 2:
		c := min(n-min(n, s.Ints[2]), s.Ints[1])
		f := float32(1 - float32(float32(c)/float32(s.Ints[1])))
		return float32(float32(float32(x[0]-x[1])*wantPower(f, s.Ints[0])) + x[1])
	case 3:
		k := 0
		if n >= s.Ints[1] {
			k = (n - s.Ints[1]) / s.Ints[0]
		}
		return float32(x[0] * wantPower(x[1], k))
	case 4:
		wave := wantWave(float32(float32(min(n, s.Ints[0])) / float32(s.Ints[0])))
		w := float32(0.5 * float32(1+wave))
		return float32(float32(float32(float32(1-x[1])*w)+x[1]) * x[0])
	case 5:
		v := x[0]
		for i := range s.Ints {
			if s.Ints[i] <= n {
				v = float32(v * x[i+1])
			}
		}
		return v
	case 6:
		for i := len(s.Ints) - 1; i >= 0; i-- {
			if s.Ints[i] <= n {
				return wantValue(s.Kids[i+1], n-s.Ints[i])
			}
		}
		return wantValue(s.Kids[0], n)
	case 7:
		c := s.Ints[0]
		if n > c {
			c = n
		}
		return float32(x[0] * float32(math.Sqrt(float64(float32(float32(s.Ints[0])/float32(c))))))
	case 12:
		return wantValue(s.Kids[0], n-min(n, s.Ints[0]))
	case 13:
		return wantValue(s.Kids[0], n-max(0, n-s.Ints[0]))
	}
	return wantJoined(s.Op, wantValue(s.Kids[0], n), wantValue(s.Kids[1], n))
}

func wantJoined(op int, x, y float32) float32 {
	switch {
	case op == 8:
		return float32(x + y)
	case op == 9:
		return float32(x * y)
	case x != x || y != y:
		return number(nan)
	case (op == 10) == isAhead(x, y):
		return x
	}
	return y
}

// isAhead tells whether x stands ahead of y in the order, minus nought ahead of plus nought.
func isAhead(x, y float32) bool {
	return x < y || x == y && math.Signbit(float64(x))
}

// wantPower: F7. Behind each bit it is the power of the bits so far, so it may as well be reckoned from the end.
func wantPower(x float32, n int) float32 {
	if n < 1 {
		return 1
	}
	if n == 1 {
		return x
	}
	r := wantPower(x, n/2)
	r = float32(r * r)
	if n%2 == 1 {
		r = float32(r * x)
	}
	return r
}

// wantWave: the section 'Wave'.
func wantWave(x float32) float32 {
	c := []api.F{0xc09de9e6, 0x4081e0f8, 0xbfaae9e4, 0x3e70fa83, 0xbcd368f9, 0x3afce9c5} // c1 to c6
	switch {
	case x != x:
		return x
	case !(x > 0):
		x = 0
	case x > 1:
		x = 1
	case x == 0.5:
		return 0
	}
	t := x
	if x > 0.5 {
		t = float32(1 - x)
	}
	u := float32(t * t)
	r := number(c[5])
	for i := 4; i >= 0; i-- {
		r = float32(float32(r*u) + number(c[i]))
	}
	r = float32(float32(r*u) + 1)
	if x > 0.5 {
		return -r
	}
	return r
}
