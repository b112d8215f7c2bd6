package code

import (
	"strings"
	"testing"

	"lathe/alloc"
	"lathe/api"
	"lathe/check"
	"lathe/fold"
	"lathe/fuse"
	"lathe/ir"
	"lathe/lower"
	"lathe/prune"
	"lathe/reuse"
	"lathe/samples"
)

// TestCodesFromAllOver: CO1 to CO3, Decode of what Encode tells is the code, of codes from all over.
func TestCodesFromAllOver(t *testing.T) {
	g, bytes, ops := &samples.Grower{Source: 20}, map[string]api.Code{}, map[int]bool{}
	for n := range 4000 {
		for _, c := range []api.Code{g.Code(60), g.SingleCode(n % 300)} {
			b := wantBytes(c)
			holdTaken(t, b, c)
			if other, isThere := bytes[b]; isThere && !ir.Equal(c, other) {
				t.Errorf("%s and %s have the same bytes", samples.Show(c), samples.Show(other))
			}
			bytes[b] = c
			for op := range samples.Counts(c) {
				ops[op] = true
			}
		}
	}
	if len(bytes) < 5000 || len(ops) != 37 {
		t.Errorf("only %d codes, with %d kinds of instructions", len(bytes), len(ops))
	}
}

// TestPrograms: CO1 to CO3, the codes of typed programs, as they are lowered, and behind each choice of the passes.
func TestPrograms(t *testing.T) {
	g := &samples.Grower{Source: 21}
	for i := range 1000 {
		list := g.Params(3)
		may := func(x api.Tx) bool { return check.Valid(x, list) == api.OK }
		c, e := lower.Lower(g.Program(1+i%4, len(list), may), list)
		for bit, pass := range []func(c api.Code) (api.Code, api.Errno){fold.Fold, reuse.Reuse, prune.Prune, fuse.Fuse, alloc.Alloc} {
			if e == api.OK && i>>bit&1 == 1 {
				c, e = pass(c)
			}
		}
		if e != api.OK {
			t.Fatalf("no code: %d", e)
		}
		holdTaken(t, wantBytes(c), c)
	}
}

// TestOneForEach: CO3, two codes that differ in one field alone have other bytes.
func TestOneForEach(t *testing.T) {
	g, count := &samples.Grower{Source: 22}, 0
	for range 3000 {
		c := g.Code(30)
		d := samples.CloneCode(c)
		switch which := g.Below(4); {
		case which == 0 && len(d.Sign) > 0:
			d.Sign[g.Below(len(d.Sign))].Len++
		case which == 1 && len(d.Slots) > 0:
			s := &d.Slots[g.Below(len(d.Slots))]
			s.Keep = !s.Keep
		case which == 2 && len(d.Slots) > 0:
			if s := &d.Slots[g.Below(len(d.Slots))]; s.Type.Kind == 2 {
				s.Int ^= 1
			} else {
				s.Bits ^= 0x80000000
			}
		case len(d.List) > 0:
			*samples.Field(&d.List[g.Below(len(d.List))], "DABCN?"[g.Below(6)])++
		}
		if e, _ := ir.Check(d); e == api.OK && !ir.Equal(c, d) {
			count++
			if encoded(t, c) == encoded(t, d) {
				t.Errorf("%s and %s have the same bytes", samples.Show(c), samples.Show(d))
			}
		}
	}
	if count < 1000 {
		t.Errorf("only %d", count)
	}
}

// explore holds bytes that begin so, alone and with their fingerprint, and those with one more byte of these behind, as long as they may
// still become bytecode; it counts those that are taken.
func explore(t *testing.T, b, alphabet string, left int) int {
	t.Helper()
	count := 0
	if hold(t, sealed(b)) == api.OK {
		count++
	}
	if hold(t, b) != errCut || left == 0 || t.Failed() {
		return count
	}
	if _, s := scanned(sealed(b)); s.e == api.OK {
		return count // only the fingerprint can follow
	}
	for k := range len(alphabet) {
		count += explore(t, b+alphabet[k:k+1], alphabet, left-1)
	}
	return count
}

// TestAllShort: CO2 and CO3, all bytes by hand, of few kinds, behind beginnings of bytecode.
func TestAllShort(t *testing.T) {
	count := 0
	for _, x := range []struct {
		ahead, alphabet string
		left            int
	}{
		{"", "00 01 02 03 80 ff", 7}, {"", "00 01 'w'", 11}, {"01 01 01 'w' 01", "00 01 02 03 25 7f 80", 6}, {"00", "00 01 02 03 04 80", 7},
		{"00 02 01 02 00", "00 01 02 03 10 11 12 17 22 23 80", 5}, {"01 02 01 'z' 02 02 03 00 01 00 02", "00 01 0f 1d 1f 24 25", 6},
		{"00 00 01 00 01 000000", "00 7f 80 ff 01", 3}, {"00 00 01 00 01", "00 80 7f c0 ff", 6}, {"00 00 01 01 02", "00 01 7f 80 ff", 8},
		{"01 02 02 'zz' 02 03 01 02 03 00 03 01 01 00000000 00 02 05 00 03 00 00000000 02", "00 01 02 20 21", 7},
	} {
		count += explore(t, "lth1"+raw(x.ahead), raw(x.alphabet), x.left)
	}
	if count < 500 {
		t.Errorf("only %d are taken", count)
	}
}

// TestFirstBytes: CO2, all bytes of at most five that are the mark's or others.
func TestFirstBytes(t *testing.T) {
	list := []string{""}
	for range 5 {
		for _, b := range list {
			for _, more := range []string{"l", "t", "h", "1", "\x00", "\xff"} {
				hold(t, b+more)
				list = append(list, b+more)
			}
		}
		list = list[len(list)/7:]
	}
}

// mixed is bytes made of pieces of others, with some changed, left out, put in and done twice.
func mixed(g *samples.Grower, b, other string) string {
	for range 1 + g.Below(3) {
		at := g.Below(len(b) + 1)
		end := min(len(b), at+g.Below(9))
		switch g.Below(7) {
		case 0:
			b = b[:at] + b[end:]
		case 1:
			b = b[:end] + b[at:]
		case 2:
			b = b[:at] + string([]byte{byte(g.Next() >> 9)}) + b[at:]
		case 3:
			from := g.Below(len(other) + 1)
			b = b[:at] + other[from:min(len(other), from+g.Below(9))] + b[at:]
		case 4:
			b = b[:at] + other[min(at, len(other)):]
		default:
			if at < len(b) {
				b = b[:at] + string([]byte{[]byte{0, 1, 2, 3, 127, 128, 255, b[at] + 1, b[at] - 1, byte(g.Next() >> 9)}[g.Below(10)]}) + b[at+1:]
			}
		}
	}
	return b
}

// TestMixed: CO2, CO3 and CO5, bytes that were bytecode once, alone and with their fingerprint.
func TestMixed(t *testing.T) {
	g, seen := &samples.Grower{Source: 23}, map[api.Errno]int{}
	for range 40000 {
		b, other := encoded(t, g.Code(20)), encoded(t, g.Code(20))
		b = mixed(g, b[:len(b)-8], other)
		hold(t, b+other[len(other)-8:])
		seen[hold(t, sealed(b))]++
	}
	for _, e := range []api.Errno{api.OK, errMark, errCut, errForm, errLong, errSum, errBehind, errParam, errTwice, errCode} {
		if seen[e] == 0 {
			t.Errorf("no bytes have the error %d: %v", e, seen)
		}
	}
	if seen[api.OK] < 1500 {
		t.Errorf("%v", seen)
	}
}

// TestAnyBytes: CO2 and CO5, any bytes whatever: of all, of low ones, of bits.
func TestAnyBytes(t *testing.T) {
	g := &samples.Grower{Source: 24}
	for n := range 100000 {
		var b strings.Builder
		if n%4 > 0 {
			b.WriteString("lth1")
		}
		masks := []byte{255, 63, 3, 1, 129}
		mask := masks[g.Below(5)]
		for range g.Below(60) {
			b.WriteByte(byte(g.Next()>>9) & mask)
		}
		hold(t, b.String())
		hold(t, sealed(b.String()))
	}
}
