package driver

import (
	"testing"

	"lathe/api"
	"lathe/samples"
	"lathe/vm"
)

// TestSnapshotBytes: DR3, a snapshot byte by byte: of a state without numbers, and of one with a whole number and a vector.
func TestSnapshotBytes(t *testing.T) {
	for _, passes := range []int{0, passAll} {
		b := compiled(t, "scale(2)", real(2), passes)
		s := opened(t, b)
		print := b[len(b)-8:]
		if got, want := s.Snapshot(), summed([]byte("LATHS\x01"+print+"\x00\x00\x00\x00"+"\x00\x00\x00\x00")); got != want || len(got) != 30 {
			t.Errorf("%x, want %x", got, want)
		}
		stepped(t, s, fill(real(2), one), fill(real(2), one))
		if got, want := s.Snapshot(), summed([]byte("LATHS\x01"+print+"\x01\x00\x00\x00"+"\x00\x00\x00\x00")); got != want {
			t.Errorf("%x, want %x", got, want)
		}
	}
	b := compiled(t, "trace(0.5)", real(2), 0)
	s := opened(t, b)
	for range 258 {
		stepped(t, s, [][]api.F{{0x12345678, 0xc0000000}}, fill(real(2), one))
	}
	restored(t, s, snapshot(b, 258, 0x12345678, 0xc0000000))
	want := summed([]byte("LATHS\x01" + b[len(b)-8:] + "\x02\x01\x00\x00" + "\x02\x00\x00\x00" + "\x78\x56\x34\x12" + "\x00\x00\x00\xc0"))
	if got := s.Snapshot(); got != want {
		t.Errorf("%x, want %x", got, want)
	}
}

// TestSnapshotWholes: DR3, a snapshot of whole numbers: those that the meaning has.
func TestSnapshotWholes(t *testing.T) {
	b := compiled(t, "until(2147483647, scale(2), scale(3))", real(1), 0)
	s := opened(t, b)
	for n := range 5 {
		if got, want := s.Snapshot(), snapshot(b, uint32(n), uint32(n)); got != want {
			t.Errorf("%x, want %x", got, want)
		}
		stepped(t, s, fill(real(1), one), fill(real(1), one))
	}
	restored(t, s, snapshot(b, 7, maxCount-1))
	for n, want := range []api.F{two, three, three} { // until comes to its end there, and the count stays
		if u := stepped(t, s, fill(real(1), one), fill(real(1), one)); u[0][0] != want {
			t.Errorf("%08x, want %08x", u[0][0], want)
		}
		if got, want := s.Snapshot(), snapshot(b, uint32(8+n), maxCount); got != want {
			t.Errorf("%x, want %x", got, want)
		}
	}
}

// TestSnapshotsFromAllOver: DR3, snapshots hold what the machine of these bytes keeps, and are the same whenever they are asked.
func TestSnapshotsFromAllOver(t *testing.T) {
	g := &samples.Grower{Source: 12}
	for n := range 300 {
		list := g.Params(4)
		b := compiled(t, text(g, list, 1+n%4), list, g.Below(subsets))
		s := opened(t, b)
		m, _ := vm.New(b)
		for step := range 4 {
			want := snapshot(b, uint32(step), m.State()...)
			if got := s.Snapshot(); got != want || s.Snapshot() != want || s.Count() != step {
				t.Fatalf("%x, want %x", got, want)
			}
			grads, params := anyVectors(g, list), anyVectors(g, list)
			stepped(t, s, grads, params)
			m.Step(grads, params)
		}
	}
}

// TestGoingOn: DR4 and P8, at every step a snapshot that is restored in a new session, and in one that had gone elsewhere before: all go on alike,
// and tell the same snapshots.
func TestGoingOn(t *testing.T) {
	g := &samples.Grower{Source: 13}
	for n := range 160 {
		list := append(g.Params(3), api.Param{Name: "last", Kind: 1 + n%2, Len: 2})
		b := compiled(t, text(g, list, 1+n%5), list, n%subsets)
		s := opened(t, b)
		var others []*Session
		for range 7 {
			told := s.Snapshot()
			fresh, elsewhere := opened(t, b), opened(t, b)
			for range 1 + g.Below(3) {
				stepped(t, elsewhere, anyVectors(g, list), anyVectors(g, list))
			}
			restored(t, fresh, told)
			restored(t, elsewhere, told)
			others = append(others, fresh, elsewhere)
			grads, params := anyVectors(g, list), anyVectors(g, list)
			u := stepped(t, s, grads, params)
			for _, other := range others {
				if other.Snapshot() != told || other.Count() != s.Count()-1 {
					t.Fatalf("%x, want %x", other.Snapshot(), told)
				}
				if v := stepped(t, other, grads, params); !same(u, v) || other.Snapshot() != s.Snapshot() {
					t.Fatalf("%08x, want %08x; %x, want %x", v, u, other.Snapshot(), s.Snapshot())
				}
			}
		}
	}
}

// TestBackAgain: DR4, a session that goes back to a snapshot of its own does the steps behind it once more in the same way.
func TestBackAgain(t *testing.T) {
	g := &samples.Grower{Source: 14}
	for n := range 100 {
		list := mixed()
		s := session(t, text(g, list, 1+n%4), list, n%subsets)
		var grads, params, updates [][][]api.F
		snapshots := []string{s.Snapshot()}
		for step := range 8 {
			grads, params = append(grads, anyVectors(g, list)), append(params, anyVectors(g, list))
			updates = append(updates, stepped(t, s, grads[step], params[step]))
			snapshots = append(snapshots, s.Snapshot())
		}
		for range 10 {
			from := g.Below(9)
			restored(t, s, snapshots[from])
			for step := from; step < 8; step++ {
				if u := stepped(t, s, grads[step], params[step]); !same(u, updates[step]) || s.Snapshot() != snapshots[step+1] || s.Count() != step+1 {
					t.Fatalf("step %d: %08x, want %08x", step+1, u, updates[step])
				}
			}
		}
	}
}

// TestNotCanonical: DR3 and DR4, patterns of a snapshot that are not canonical are taken, as the one NaN; all others come back as they are.
func TestNotCanonical(t *testing.T) {
	list := real(1)
	b := compiled(t, "scale_by_optimistic_gradient()", list, 0) // it keeps one number
	s := opened(t, b)
	for _, a := range append(append(samples.Edges(), samples.NaNs()...), one, two, 0x7f800001, 0xffffffff, 0xffc00000, nan) {
		want := uint32(a)
		if samples.IsNaN(a) {
			want = 0x7fc00000
		}
		restored(t, s, snapshot(b, 3, uint32(a)))
		if got := s.Snapshot(); got != snapshot(b, 3, want) || (samples.IsTold(a) && got != snapshot(b, 3, uint32(a))) {
			t.Errorf("%08x: %x", a, got)
		}
		m, _ := vm.New(b)
		m.Set([]uint32{uint32(a)})
		v, _ := m.Step(fill(list, one), fill(list, one))
		if u := stepped(t, s, fill(list, one), fill(list, one)); !same(u, v) {
			t.Errorf("%08x: %08x, want %08x", a, u, v)
		}
	}
}
