package decimal

import (
	"math/big"
	mathbits "math/bits"
	"strconv"
	"strings"

	"lathe/api"
	"lathe/bits"
)

// Shortest is the shortest text of a number.
func Shortest(a api.F) (string, api.Errno) {
	digits, point, err := Digits(a)
	if err != api.OK {
		return "", err
	}
	text := scientific(digits, point)
	if -3 <= point && point <= 9 {
		text = plain(digits, point)
	}
	if minus, _, _ := bits.Parts(a); minus {
		return "-" + text, api.OK
	}
	return text, api.OK
}

// plain is 0.digits * 10^point with a point alone.
func plain(digits string, point int) string {
	n := len(digits)
	switch {
	case point <= 0:
		return "0." + strings.Repeat("0", -point) + digits
	case n <= point:
		return digits + strings.Repeat("0", point-n) + ".0"
	}
	return digits[:point] + "." + digits[point:]
}

// scientific is 0.digits * 10^point with an exponent.
func scientific(digits string, point int) string {
	text := digits[:1]
	if len(digits) > 1 {
		text += "." + digits[1:]
	}
	return text + "e" + strconv.Itoa(point-1)
}

// Digits are the digits of that, and the place of the point.
func Digits(a api.F) (string, int, api.Errno) {
	switch bits.Class(a) {
	case bits.Infinite, bits.NotNumber:
		return "", 0, api.ErrArg
	case bits.Nought:
		return "0", 1, api.OK
	}
	r, tens := about(a)
	all := strconv.Itoa(r.shortest())
	return strings.TrimRight(all, "0"), len(all) + tens, api.OK
}

// A reach is where the values lie whose nearest number is a given one, counted in a power of ten.
type reach struct {
	least, most int  // the whole numbers within it
	value       int  // the given number, rounded down
	more        bool // whether that cut something off
}

// about is the reach of a number, and its power of ten: one by which the number counts from 10^10 to 10^12, so that whole numbers tell all that its digits hang on.
func about(a api.F) (reach, int) {
	_, exponent, fraction := bits.Parts(a)
	size := fraction
	if exponent > 0 {
		size += 1 << fractionBits
	}
	twos := leastTwos + max(0, exponent-1)
	tens := (mathbits.Len(uint(size))+twos)*1233>>12 - 11 // 1233 / 2^12 is about the logarithm of 2
	quarters := func(n int) (int, bool) {
		count, more := times(big.NewInt(int64(n)), twos-2, -tens)
		return int(count.Int64()), more
	}

	var r reach
	r.value, r.more = quarters(4 * size)
	low, lowMore := quarters(4*size - below(exponent, fraction))
	most, mostMore := quarters(4*size + 2)
	// Of what lies halfway the even number is the nearest: an odd one's ends are not its own.
	odd := size&1 == 1
	r.least, r.most = low, most
	if lowMore || odd {
		r.least++
	}
	if !mostMore && odd {
		r.most--
	}
	return r, tens
}

// below is how far, in quarters of the distance to the next number, the reach goes below a number: half as far at a power of two, for the numbers below it lie closer, but for the least normal one.
func below(exponent, fraction int) int {
	if fraction == 0 && exponent > 1 {
		return 1
	}
	return 2
}

// shortest is the number of the reach with the most noughts at its end, and of several the nearest to the value.
func (r reach) shortest() int {
	best := r.value
	for step := 10; step <= r.most; step *= 10 {
		multiple := r.multiple(step)
		if multiple == 0 {
			break // nor does the reach hold a multiple of a greater step
		}
		best = multiple
	}
	return best
}

// multiple is the multiple of a step that lies in the reach and the nearest to the value, of two as near the even one: 0, if there is none.
func (r reach) multiple(step int) int {
	down := r.value / step * step
	up := down + step
	switch {
	case down < r.least && up > r.most:
		return 0
	case down < r.least:
		return up
	case up > r.most:
		return down
	}
	distance := 2*(r.value-down) - step
	if distance > 0 || distance == 0 && (r.more || down/step%2 == 1) {
		return up
	}
	return down
}
