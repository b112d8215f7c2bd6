package decimal

import (
	"math/big"
	"strconv"
	"strings"
	"testing"

	"lathe/api"
)

// A row is what Parse answers of a text.
type row struct {
	s    string
	want api.F
	err  api.Errno
}

func holdParse(t *testing.T, s string, want api.F, err api.Errno) {
	t.Helper()
	a, e := Parse(s)
	if a == want && e == err {
		return
	}
	if len(s) > 200 {
		s = s[:100] + " .. " + s[len(s)-100:]
	}
	t.Errorf("Parse(%q) = %08x, %d, want %08x, %d", s, a, e, want, err)
}

// holdNearest holds Parse of a text, with and without a sign, against the library's fractions.
func holdNearest(t *testing.T, s string) {
	t.Helper()
	want := rounded(valueOf(t, s))
	if want == api.Inf {
		holdParse(t, s, 0, api.ErrGreat)
		holdParse(t, "-"+s, 0, api.ErrGreat)
		return
	}
	holdParse(t, s, want, api.OK)
	holdParse(t, "-"+s, want|minus, api.OK)
}

// TestParseRows: D1: the chapter's examples, and ordinary ones.
func TestParseRows(t *testing.T) {
	for _, r := range []row{
		{"1", 0x3f800000, api.OK}, {"0.1", 0x3dcccccd, api.OK}, {"-0", 0x80000000, api.OK}, {"16777217", 0x4b800000, api.OK},
		{"1e-45", 1, api.OK}, {"7e-46", 0, api.OK}, {"3.4028235e38", 0x7f7fffff, api.OK}, {"3.4028235677e38", 0x7f7fffff, api.OK},
		{"3.4028236e38", 0, api.ErrGreat}, {"1e39", 0, api.ErrGreat},
		{".5", 0, api.ErrDigits}, {"1.", 0, api.ErrDigits}, {"+1", 0, api.ErrDigits}, {"1e", 0, api.ErrDigits},

		{"-1", 0xbf800000, api.OK}, {"2", 0x40000000, api.OK}, {"10", 0x41200000, api.OK}, {"0.5", 0x3f000000, api.OK}, {"-2.5", 0xc0200000, api.OK},
		{"3.1415927", 0x40490fdb, api.OK}, {"1e0", 0x3f800000, api.OK}, {"1E1", 0x41200000, api.OK}, {"1e+1", 0x41200000, api.OK}, {"100e-1", 0x41200000, api.OK},
		{"1.5E-1", 0x3e19999a, api.OK}, {"0.001e3", 0x3f800000, api.OK}, {"00.10", 0x3dcccccd, api.OK}, {"1e-00", 0x3f800000, api.OK},
		{"-3.4028236e38", 0, api.ErrGreat}, {"-1e39", 0, api.ErrGreat}, {"-3.4028235e38", 0xff7fffff, api.OK},
	} {
		holdParse(t, r.s, r.want, r.err)
	}
}

// TestNoDecimal: D1, the texts that the chapter's word leaves out.
func TestNoDecimal(t *testing.T) {
	for _, s := range []string{
		"", "-", "+", ".", "e", "E", "-.", "e1", "-e1", ".e1", "-.5", ".5e1", "1.e1", "1.-5", "1.+5", "1.5.5", "1..5", "1e.5", "1e1.5", "1e1e1",
		"1e-", "1e+", "1E", "1.5e", "1.5e-", "--1", "+-1", "-+1", "1-", "1+", "-1-", "1-1", "1e--1", "1e++1", "1e+-1", "1e-+1", "1e1-", "1e1+",
		" 1", "1 ", "1 0", "- 1", "1 e1", "1e 1", "1\n", "\x001", "1\x00", "1,5", "1_000", "1e1_0", "0x10", "0x1p4", "1p4", "1f", "1d2", "0b1", "0o7",
		"inf", "Inf", "-inf", "infinity", "nan", "NaN", "\u0661", "\uff11", "1\u00b2", "\u22121", "\xff", "1\xff",
	} {
		holdParse(t, s, 0, api.ErrDigits)
	}
}

// TestEveryByte: D1: any byte in any place of a decimal, in the place of another or between two.
func TestEveryByte(t *testing.T) {
	for _, s := range []string{"7", "-12", "3.25", "-40.06e-12", "5E+7"} {
		for place := range len(s) + 1 {
			for c := range 256 {
				other := s[:place] + string([]byte{byte(c)})
				holdForm(t, other+s[place:])
				if place < len(s) {
					holdForm(t, other+s[place+1:])
				}
			}
		}
	}
}

// TestShortTexts: D1: all texts of at most six of these bytes.
func TestShortTexts(t *testing.T) {
	const bytes = "05.eE+-"
	texts := []string{""}
	for length := range 7 {
		var longer []string
		for _, s := range texts {
			holdForm(t, s)
			if length < 6 {
				for i := range bytes {
					longer = append(longer, s+bytes[i:i+1])
				}
			}
		}
		texts = longer
	}
}

// holdForm holds a short text against the form of a decimal, and its value if it is one.
func holdForm(t *testing.T, s string) {
	t.Helper()
	if form.MatchString(s) {
		holdNearest(t, strings.TrimPrefix(s, "-"))
	} else {
		holdParse(t, s, 0, api.ErrDigits)
	}
}

// TestLength: D1: MaxSource bytes and one more; ErrLong stands first.
func TestLength(t *testing.T) {
	long := strings.Repeat("0", api.MaxSource-1)
	for _, r := range []row{
		{long + "2", 0x40000000, api.OK},
		{"-" + long, 0x80000000, api.OK},
		{"2." + long[1:], 0x40000000, api.OK},
		{"1e" + long[2:] + "1", 0x41200000, api.OK},
		{"9" + long, 0, api.ErrGreat},
		{"x" + long, 0, api.ErrDigits},
		{long + "x", 0, api.ErrDigits},
		{long + ".", 0, api.ErrDigits},

		{long + "02", 0, api.ErrLong},
		{"-0" + long, 0, api.ErrLong},
		{"1e" + long, 0, api.ErrLong},
		{"99" + long, 0, api.ErrLong},
		{"x0" + long, 0, api.ErrLong},
		{"9" + long + long, 0, api.ErrLong},
	} {
		holdParse(t, r.s, r.want, r.err)
	}
}

// TestHalves: D1: exactly between two numbers, and just above and below by a digit far behind; from half the least subnormal to 2^128 - 2^103.
func TestHalves(t *testing.T) {
	for _, a := range append(spread(), 0) {
		half := halfway(a)
		tie, next := a+a&1, a+1
		err := api.OK
		if a == greatest {
			tie, next, err = 0, 0, api.ErrGreat
		}
		text := half.FloatString(150)
		holdBoth(t, text, tie, err)
		holdBoth(t, text+strings.Repeat("0", 40), tie, err)
		holdBoth(t, text+"1", next, err)
		holdBoth(t, text+strings.Repeat("0", 300)+"1", next, err)
		holdBoth(t, lessened(half, 151), a, api.OK)
		holdBoth(t, lessened(half, 500), a, api.OK)
		shifted := strings.TrimLeft(strings.Replace(text, ".", "", 1), "0")
		holdBoth(t, shifted+"e-150", tie, err)
		holdBoth(t, shifted+"001e-153", next, err)
		holdBoth(t, "0.0"+shifted+"e"+strconv.Itoa(len(shifted)-149), tie, err)
	}
}

// holdBoth holds Parse of a text without and with a sign.
func holdBoth(t *testing.T, s string, want api.F, err api.Errno) {
	t.Helper()
	holdParse(t, s, want, err)
	if err == api.OK {
		want |= minus
	}
	holdParse(t, "-"+s, want, err)
}

// lessened is the text that is less than x by one in a place behind the point.
func lessened(x *big.Rat, place int) string {
	return new(big.Rat).Sub(x, ten(-place)).FloatString(place)
}

// TestEdges: D1: the least subnormal, its half, the least normal number, the greatest one, 2^128 - 2^103, as texts.
func TestEdges(t *testing.T) {
	for _, r := range []row{
		{"0.7e-45", 0, api.OK},
		{"7.00649232162408535461864791644958065640130970938257885878534141944895541342930300743319094181060791015625e-46", 0, api.OK},
		{"7.006492321624085354618647916449580656401309709382578858785341419448955413429303007433190941810607910156250001e-46", 1, api.OK},
		{"7.00649232162408535461864791644958065640130970938257885878534141944895541342930300743319094181060791015624999e-46", 0, api.OK},
		{"9e-46", 1, api.OK}, {"1.4e-45", 1, api.OK}, {"2.1e-45", 1, api.OK}, {"2.2e-45", 2, api.OK}, {"3e-45", 2, api.OK},
		{"1e-46", 0, api.OK}, {"9e-47", 0, api.OK}, {"0.99e-46", 0, api.OK},
		{"1.1754942e-38", 0x007fffff, api.OK}, {"1.1754944e-38", 0x00800000, api.OK}, {"1.1754943508222875e-38", 0x00800000, api.OK}, {"1.1754945e-38", 0x00800001, api.OK},
		{"340282346638528859811704183484516925440", 0x7f7fffff, api.OK},
		{"340282356779733661637539395458142568447", 0x7f7fffff, api.OK},
		{"340282356779733661637539395458142568447.999", 0x7f7fffff, api.OK},
		{"340282356779733661637539395458142568448", 0, api.ErrGreat},
		{"340282356779733661637539395458142568448.001", 0, api.ErrGreat},
		{"340282366920938463463374607431768211456", 0, api.ErrGreat},
		{"999999999999999999999999999999999999999", 0, api.ErrGreat},
		{"1000000000000000000000000000000000000000", 0, api.ErrGreat},
		{"16777216.999999999999999999999999999999", 0x4b800000, api.OK},
		{"16777217.000000000000000000000000000001", 0x4b800001, api.OK},
		{"16777219", 0x4b800002, api.OK}, {"16777221", 0x4b800002, api.OK}, {"33554431", 0x4c000000, api.OK},
	} {
		holdBoth(t, r.s, r.want, r.err)
	}
}

// TestManyDigits: D1: the value is the exact one, whatever its length.
func TestManyDigits(t *testing.T) {
	noughts := strings.Repeat("0", 65000)
	nines := strings.Repeat("9", 65000)
	for _, r := range []row{
		{noughts + "0.1", 0x3dcccccd, api.OK},
		{"0.1" + noughts, 0x3dcccccd, api.OK},
		{"16777217." + noughts, 0x4b800000, api.OK},
		{"16777217." + noughts + "1", 0x4b800001, api.OK},
		{"16777216." + nines, 0x4b800000, api.OK},
		{"16777218." + nines, 0x4b800001, api.OK},
		{"0." + nines, 0x3f800000, api.OK},
		{"1677721700" + noughts[:200] + "e-202", 0x4b800000, api.OK},
		{"1677721700" + noughts[:200] + "1e-203", 0x4b800001, api.OK},
		{nines, 0, api.ErrGreat},
		{noughts + "1" + noughts[:500], 0, api.ErrGreat},
		{"0." + noughts + "1", 0, api.OK},
		{noughts + "340282356779733661637539395458142568447." + nines[:400], 0x7f7fffff, api.OK},
		{"340282356779733661637539395458142568448." + noughts, 0, api.ErrGreat},
	} {
		holdBoth(t, r.s, r.want, r.err)
	}
}

// TestExponents: D1: exponents of any number of digits and any value, also such as a point or noughts bring back.
func TestExponents(t *testing.T) {
	noughts := strings.Repeat("0", 65000)
	nines := strings.Repeat("9", 65000)
	for _, r := range []row{
		{"1e" + noughts, 0x3f800000, api.OK},
		{"1e-" + noughts + "1", 0x3dcccccd, api.OK},
		{"1e+" + noughts + "38", 0x7e967699, api.OK},
		{"1e" + nines, 0, api.ErrGreat},
		{"1e-" + nines, 0, api.OK},
		{"0e" + nines, 0, api.OK},
		{"0.00e+" + nines, 0, api.OK},
		{"0e-" + nines, 0, api.OK},
		{"1e2147483648", 0, api.ErrGreat}, {"1e4294967296", 0, api.ErrGreat}, {"1e9223372036854775808", 0, api.ErrGreat}, {"1e18446744073709551616", 0, api.ErrGreat},
		{"1e-2147483648", 0, api.OK}, {"1e-4294967296", 0, api.OK}, {"1e-9223372036854775808", 0, api.OK}, {"1e-18446744073709551616", 0, api.OK},
		{"1e40", 0, api.ErrGreat}, {"0.1e40", 0, api.ErrGreat}, {"0.01e40", 0x7e967699, api.OK},

		{"0." + noughts + "1e65001", 0x3f800000, api.OK},
		{"0." + noughts + "1e65039", 0x7e967699, api.OK},
		{"0." + noughts + "1e65040", 0, api.ErrGreat},
		{"0." + noughts + "1e64956", 1, api.OK},
		{"0." + noughts + "1e64955", 0, api.OK},
		{"0." + noughts + "1e100000", 0, api.ErrGreat},
		{"0." + noughts + "1e1000000", 0, api.ErrGreat},
		{"0." + noughts + "1e" + nines[:500], 0, api.ErrGreat},
		{"1" + noughts + "e-65000", 0x3f800000, api.OK},
		{"1" + noughts + "e-64962", 0x7e967699, api.OK},
		{"1" + noughts + "e-64961", 0, api.ErrGreat},
		{"1" + noughts + "e-65045", 1, api.OK},
		{"1" + noughts + "e-65046", 0, api.OK},
		{"1" + noughts + "e-100000", 0, api.OK},
		{"1" + noughts + "e-1000000", 0, api.OK},
		{"1" + noughts + "e-" + nines[:500], 0, api.OK},
		{nines + "e-65000", 0x3f800000, api.OK},
		{noughts + "e500", 0, api.OK},
	} {
		holdBoth(t, r.s, r.want, r.err)
	}
}

// TestMinusNoughts: D1: the sign that stands there.
func TestMinusNoughts(t *testing.T) {
	for _, s := range []string{"-0", "-0.0", "-00", "-0e5", "-0e-5", "-0.000E+99999", "-7e-46", "-1e-46", "-1e-99999", "-0.0001e-99"} {
		holdParse(t, s, 0x80000000, api.OK)
		holdParse(t, s[1:], 0, api.OK)
	}
}
