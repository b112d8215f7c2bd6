package driver

import (
	"slices"
	"strconv"
	"strings"
	"sync"
	"testing"

	"lathe/api"
	"lathe/check"
	"lathe/code"
	"lathe/lower"
	"lathe/parse"
	"lathe/samples"
	"lathe/verify"
)

// weightOf is the weight of a text; false, if it has no typed program.
func weightOf(text string, list []api.Param) (int, bool) {
	root, e, _ := parse.Parse(text)
	if e != api.OK {
		return 0, false
	}
	program, e, _ := check.Check(root, list)
	if e != api.OK {
		return 0, false
	}
	w, e := lower.Weight(program, list)
	return w, e == api.OK
}

// alikes are so many parameters of a kind and a length.
func alikes(count, kind, length int) []api.Param {
	var list []api.Param
	for n := range count {
		list = append(list, api.Param{Name: "p" + strconv.Itoa(n), Kind: kind, Len: length})
	}
	return list
}

// chained are so many calls behind one another.
func chained(call string, count int) string {
	return "chain(" + strings.Repeat(call+",", count-1) + call + ")"
}

// nested are so many kids in one another, each of which has to be kept until the other kid has been asked.
func nested(count int) string {
	return strings.Repeat("until(1, chain(scale(2), ", count) + "identity()" + strings.Repeat("), identity())", count)
}

// A heavyText is one that has an error behind its tree with some choices of the passes: those that want tells.
type heavyText struct {
	text string
	list []api.Param
	want func(passes int) api.Errno
}

// only is an error with all choices that have those passes, and have none of the others.
func only(e api.Errno, with, without int) func(passes int) api.Errno {
	return func(passes int) api.Errno {
		if passes&with == with && passes&without == 0 {
			return e
		}
		return api.OK
	}
}

// heavyTexts are some for each error of lower, opt and verify that can be.
func heavyTexts() []heavyText {
	room := func(passes int) api.Errno {
		if passes&passAlloc == 0 {
			return errRoom
		}
		return api.OK
	}
	return []heavyText{
		{chained("scale_by_amsgrad()", 20), alikes(64, 2, 1), only(errSize, 0, 0)},
		{chained("scale_by_amsgrad()", 200), alikes(8, 2, maxLen), only(errSize, 0, 0)}, // ErrRoom would be told later
		{chained("until(1, identity(), identity())", 40), alikes(64, 2, 1), only(errSlots, 0, 0)},
		{nested(30), alikes(64, 2, 1), only(errSlots, passAlloc, 0)},
		{chained("scale_by_amsgrad()", 20), alikes(16, 1, maxLen), room},
		{chained("trace(0.5)", 255), alikes(16, 1, maxLen), only(errRoom, 0, 0)},
	}
}

// TestHeavyErrors: DR1, the errors of lower, opt and verify, at 0, with each choice of the passes.
func TestHeavyErrors(t *testing.T) {
	for _, x := range heavyTexts() {
		side(t, subsets, func(t *testing.T, passes int) {
			holdTold(t, x.text, x.list, passes)
			if b, e, at := Compile(x.text, x.list, passes); e != x.want(passes) || at != 0 || (b == "") != (e != api.OK) {
				t.Errorf("Compile(%.60q, .., %d) = %d bytes, %d at %d, want %d", x.text, passes, len(b), e, at, x.want(passes))
			}
		})
	}
}

// TestTooLongBehindPasses: DR1, a program whose code is just not too long before the passes, and is behind fuse and alloc: the error of opt, not
// that of verify, which it would have without them.
func TestTooLongBehindPasses(t *testing.T) {
	text, list := chained("until(3,scale(2),clip_by_block_norm(3))", 90), alikes(16, 1, maxLen)
	errors := map[api.Errno]int{}
	for _, passes := range []int{0, 8, 16, 24, 31} {
		e := holdTold(t, text, list, passes)
		errors[e]++
		if (e == errRoom) != (passes&passAlloc == 0) {
			t.Errorf("passes %d: %d", passes, e)
		}
	}
	if errors[errSize] == 0 || errors[api.OK] == 0 {
		t.Error(errors)
	}
}

// TestHeavyAndWrong: DR1 and P4, what is wrong with the passes, the signature, the text or the tree is told ahead of how heavy it is.
func TestHeavyAndWrong(t *testing.T) {
	for _, x := range heavyTexts() {
		last := len(x.text) - 1
		for _, passes := range []int{0, 7, 16, 24, passAll} {
			holdError(t, x.text[:last], x.list, passes, errSyntax, last)
			holdError(t, x.text+" %", x.list, passes, errByte, last+2)
			holdError(t, "chain("+x.text+", foo())", x.list, passes, errName, 6+last+3)
			holdError(t, "chain("+x.text+", scale(0.5, 1))", x.list, passes, errArity, 6+last+3+11)
			holdError(t, "chain("+x.text+", trace(2.0))", x.list, passes, errValue, 6+last+3+6)
			for e, list := range wrongSignatures() {
				holdError(t, x.text, list, passes, e, 0)
			}
		}
		holdError(t, x.text, x.list, -1, errArg, 0)
		holdError(t, x.text, x.list, subsets, errArg, 0)
	}
}

// longest is the greatest length of parameters of which chapter 29 speaks, of a program of this weight.
func longest(weight int) int { return min(maxLen, 1<<24/(200*weight)) }

// lengthened are parameters, the longest of which has that length.
func lengthened(list []api.Param, length int) []api.Param {
	list = slices.Clone(list)
	for n := range list {
		list[n].Len = max(1, length-n*n)
	}
	return list
}

// holdLight: DR1, a program that is as light as the chapter says has bytecode with every choice of the passes, and the room that the chapter
// leaves. It is known to have a typed program.
func holdLight(t *testing.T, text string, list []api.Param, weight int) {
	t.Helper()
	length := 0
	for _, p := range list {
		length = max(length, p.Len)
	}
	if weight > 48 || 200*weight*length > 1<<24 {
		t.Fatalf("%s weighs %d over %v", text, weight, list)
	}
	for passes := range subsets {
		b := compiled(t, text, list, passes)
		c, e, _ := code.Decode(b)
		if room, _ := verify.Room(c); e != api.OK || verify.Check(c) != api.OK || !slices.Equal(c.Sign, list) || room > 200*weight*max(length, 1) {
			t.Fatalf("%s over %v, passes %d: %d, room %d", text, list, passes, e, room)
		}
	}
}

// singles are calls of every transform, and of each alias, as short as they can be.
func singles() []string {
	return strings.Fields(`identity() set_to_zero() scale(2) scale_by_schedule(cosine(1,9)) clip(1) clip_by_global_norm(1) clip_by_block_rms(1) trace(0.5,true)
		ema(0.5) scale_by_adam() scale_by_rms() scale_by_rss() scale_by_belief() scale_by_yogi() scale_by_amsgrad() scale_by_lion() scale_by_sign()
		scale_by_trust_ratio() add_decayed_weights(0.1) centralize() zero_nans() keep_params_nonnegative() scale_by_param_block_rms() apply_every(2)
		scale_by_adadelta() scale_by_adamax() scale_by_stddev() scale_by_novograd() normalize_by_update_norm() scale_by_param_block_norm()
		clip_by_block_norm(1) adaptive_grad_clip(1) scale_by_optimistic_gradient() keep_params_in_box(0,1) chain(ema(0.5),scale_by_novograd())
		masked("p0",scale_by_amsgrad()) partition("p0",scale_by_amsgrad(),scale_by_adam()) multi_steps(2,scale_by_yogi()) apply_if_finite(scale_by_yogi(),2)
		split_real_and_imaginary(scale_by_lion()) skip_large(scale_by_yogi(),1) until(2,scale_by_amsgrad(),scale_by_novograd()) adam(0.1) adamw(0.1)
		lamb(linear(1,0,9)) lars(0.1) novograd(0.1) agc(0.1) scale_by_schedule(join(cosine(1,9),3,piecewise(1,2,0.5,4,0.25),9,exponential(1,2,0.5)))
		scale_by_schedule(plus(times(polynomial(1,0,3,9),inverse(1,4)),least(after(2,cosine(1,9)),most(hold(linear(1,0,9),4),0.5))))`)
}

// lightest is the longest chain of a call whose weight is at most 48, and its weight; false, if there is none.
func lightest(call string, list []api.Param) (string, int, bool) {
	one, ok := weightOf(chained(call, 1), list)
	two, _ := weightOf(chained(call, 2), list)
	if !ok || one > 48 { // it sees complex numbers though it may not, or is too heavy by itself
		return "", 0, false
	}
	more := (48 - one) / (two - one)
	return chained(call, 1+more), one + more*(two-one), true
}

// TestLight: DR1, programs of each transform, one behind another until the weight is near 48, over parameters as long as the chapter says.
func TestLight(t *testing.T) {
	var lock sync.Mutex
	near := map[int]int{}
	side(t, 8, func(t *testing.T, part int) {
		for n, call := range singles() {
			for m, list := range [][]api.Param{nil, alikes(1, 1, 1), alikes(1, 2, 1), alikes(2, 2, 1), alikes(5, 1, 1), alikes(11, 2, 1), alikes(23, 2, 1), alikes(46, 1, 1)} {
				text, weight, ok := lightest(call, list)
				if !ok || (n+m)%8 != part {
					continue
				}
				if w, _ := weightOf(text, list); w != weight {
					t.Fatalf("%s weighs %d, not %d", text, w, weight)
				}
				holdLight(t, text, lengthened(list, longest(weight)), weight)
				lock.Lock()
				near[weight]++
				lock.Unlock()
			}
		}
	})
	if near[48] < 20 || near[47]+near[46]+near[45] < 50 {
		t.Error(near)
	}
}

// TestLightFromAllOver: DR1, programs from all over of any weight up to 48, over parameters as long as the chapter says.
func TestLightFromAllOver(t *testing.T) {
	var lock sync.Mutex
	counts := make([]int, 49)
	side(t, 8, func(t *testing.T, part int) {
		g, done := &samples.Grower{Source: samples.Source(48 + part)}, map[int]int{}
		for range 500 {
			list := append(g.Params(2+g.Below(6)), api.Param{Name: "last", Kind: 1 + g.Below(2), Len: 1})
			text := g.Text(list, 2+g.Below(4))
			weight, ok := weightOf(text, list)
			if done[weight]++; !ok || weight > 48 || done[weight] > 2 {
				continue
			}
			holdLight(t, text, lengthened(list, longest(weight)), weight)
			lock.Lock()
			counts[weight]++
			lock.Unlock()
		}
	})
	for weight := 16; weight <= 48; weight++ {
		if counts[weight] == 0 {
			t.Errorf("no program weighs %d: %v", weight, counts)
		}
	}
}

// TestLightMeans: P3, light programs over the longest parameters mean what they mean.
func TestLightMeans(t *testing.T) {
	g := &samples.Grower{Source: 49}
	for _, x := range []struct {
		call   string
		count  int
		list   []api.Param
		weight int
	}{
		{"scale_by_amsgrad()", 23, alikes(1, 1, 1), 48}, {"scale_by_novograd()", 11, alikes(1, 2, 1), 36}, {"until(2,trace(0.5),scale_by_yogi())", 5, alikes(2, 1, 1), 48}, {"adamw(0.1)", 3, alikes(1, 2, 1), 48},
	} {
		text := chained(x.call, x.count)
		if w, ok := weightOf(text, x.list); !ok || w != x.weight {
			t.Errorf("%s weighs %d, want %d", text, w, x.weight)
			continue
		}
		list := lengthened(x.list, longest(x.weight))
		m := meant(t, text, list)
		for _, passes := range []int{0, 8, 16, passAll} {
			s := session(t, text, list, passes)
			other := m.Clone()
			for range 2 {
				grads, params := g.Moody(list, 2), g.Moody(list, 0)
				want, _ := other.Step(grads, params)
				if u := stepped(t, s, grads, params); !same(u, want) {
					t.Errorf("%s, passes %d: other updates", text, passes)
				}
			}
		}
	}
}

// TestHeavier: DR1 and P4, programs whose weight is 49 and far more, or whose parameters are longer than the chapter says: bytecode, or one of
// the errors that are left to them, as the layers say.
func TestHeavier(t *testing.T) {
	var lock sync.Mutex
	errors := map[api.Errno]int{}
	lists := [][]api.Param{alikes(1, 1, maxLen), alikes(2, 2, 1748), alikes(8, 2, maxLen), alikes(64, 2, 1), alikes(47, 1, 1)}
	side(t, 8, func(t *testing.T, part int) {
		for n, call := range singles() {
			for m, list := range lists {
				text := chained(call, []int{25, 1, 600, 130, 24}[(n+2*m)%5])
				if w, ok := weightOf(text, list); n%8 != part || !ok || w <= 48 && 200*w*list[0].Len <= 1<<24 {
					continue
				}
				passes := []int{0, 7, 8, 15, 16, 23, 24, 31}[(n+m)%8]
				e := holdTold(t, text, list, passes)
				if e != api.OK && !slices.Contains([]api.Errno{errSlots, errSize, errRoom}, e) {
					t.Errorf("Compile(%.60q, .., %d) = %d", text, passes, e)
				}
				lock.Lock()
				errors[e]++
				lock.Unlock()
			}
		}
	})
	if errors[api.OK] < 50 || errors[errSize] < 50 || errors[errRoom] == 0 {
		t.Error(errors)
	}
}
