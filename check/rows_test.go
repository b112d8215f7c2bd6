package check

import (
	"slices"
	"strings"
	"testing"

	"lathe/api"
)

// rowCases are a program for each row of the transforms with the least and one with all of its arguments, and what they become.
func rowCases() [][2]string {
	return [][2]string{
		{"identity()", "1"},
		{"set_to_zero()", "29"},
		{"scale(-2.5)", "2[c0200000]"},
		{"scale_by_schedule(constant(0.5))", "3@1[3f000000]"},
		{"clip(0.5)", "4[3f000000]"},
		{"clip_by_global_norm(0.5)", "5[3f000000]"},
		{"clip_by_block_rms(0.5)", "6[3f000000]"},
		{"trace(0.5)", "7[3f000000]{0}"},
		{"trace(0.25, true)", "7[3e800000]{1}"},
		{"trace(0.25, false)", "7[3e800000]{0}"},
		{"ema(0.5)", "8[3f000000]{1}"},
		{"ema(0.25, true)", "8[3e800000]{1}"},
		{"ema(0.25, false)", "8[3e800000]{0}"},
		{"scale_by_adam()", "9[3f666666 3f7fbe77 322bcc77 00000000]"},
		{"scale_by_adam(0.5, 0.25, 2.0, 4.0)", "9[3f000000 3e800000 40000000 40800000]"},
		{"scale_by_rms()", "10[3f666666 322bcc77 00000000]"},
		{"scale_by_rms(0.5, 2.0, 4.0)", "10[3f000000 40000000 40800000]"},
		{"scale_by_rss()", "11[3dcccccd 33d6bf95]"},
		{"scale_by_rss(2.0, 4.0)", "11[40000000 40800000]"},
		{"scale_by_belief()", "12[3f666666 3f7fbe77 24e69595 24e69595]"},
		{"scale_by_belief(0.5, 0.25, 2.0, 4.0)", "12[3f000000 3e800000 40000000 40800000]"},
		{"scale_by_yogi()", "13[3f666666 3f7fbe77 3a83126f 358637bd]"},
		{"scale_by_yogi(0.5, 0.25, 2.0, 4.0)", "13[3f000000 3e800000 40000000 40800000]"},
		{"scale_by_amsgrad()", "14[3f666666 3f7fbe77 322bcc77 00000000]"},
		{"scale_by_amsgrad(0.5, 0.25, 2.0, 4.0)", "14[3f000000 3e800000 40000000 40800000]"},
		{"scale_by_lion()", "15[3f666666 3f7d70a4]"},
		{"scale_by_lion(0.5, 0.25)", "15[3f000000 3e800000]"},
		{"scale_by_sign()", "16"},
		{"scale_by_trust_ratio()", "17[00000000 3f800000 00000000]"},
		{"scale_by_trust_ratio(0.5, 2.0, 4.0)", "17[3f000000 40000000 40800000]"},
		{"add_decayed_weights(-0.5)", "18[bf000000]"},
		{"centralize()", "19"},
		{"zero_nans()", "20"},
		{"keep_params_nonnegative()", "21"},
		{"scale_by_param_block_rms()", "22[3a83126f]"},
		{"scale_by_param_block_rms(0.5)", "22[3f000000]"},
		{"chain(identity())", "23(1)"},
		{"chain(identity(), scale(2), centralize())", "23(1 2[40000000] 19)"},
		{`masked("w", zero_nans())`, "24<0>(20)"},
		{`partition("b", zero_nans(), identity())`, "25<1>(20 1)"},
		{`partition("b", zero_nans(), "*", identity(), none(), scale(2), centralize())`, "25<1><0 1><>(20 1 2[40000000] 19)"},
		{"multi_steps(3, identity())", "26{3}(1)"},
		{"apply_every(3)", "30{3}"},
		{"apply_if_finite(identity(), 3)", "27{3}(1)"},
		{"split_real_and_imaginary(identity())", "28(1)"},
		{"scale_by_adadelta()", "31[3f666666 358637bd]"},
		{"scale_by_adadelta(0.5, 2.0)", "31[3f000000 40000000]"},
		{"scale_by_adamax()", "32[3f666666 3f7fbe77 322bcc77]"},
		{"scale_by_adamax(0.5, 0.25, 2.0)", "32[3f000000 3e800000 40000000]"},
		{"scale_by_stddev()", "33[3f666666 322bcc77 00000000]"},
		{"scale_by_stddev(0.5, 2.0, 4.0)", "33[3f000000 40000000 40800000]"},
		{"scale_by_novograd()", "34[3f666666 3e800000 358637bd 00000000 00000000]"},
		{"scale_by_novograd(0.5, 0.125, 2.0, 4.0, -8.0)", "34[3f000000 3e000000 40000000 40800000 c1000000]"},
		{"normalize_by_update_norm()", "35[3f800000 358637bd]"},
		{"normalize_by_update_norm(-2.0, 4.0)", "35[c0000000 40800000]"},
		{"scale_by_param_block_norm()", "36[3a83126f]"},
		{"scale_by_param_block_norm(0.5)", "36[3f000000]"},
		{"clip_by_block_norm(0.5)", "37[3f000000]"},
		{"adaptive_grad_clip(0.5)", "38[3f000000 3a83126f]"},
		{"adaptive_grad_clip(0.5, 2.0)", "38[3f000000 40000000]"},
		{"scale_by_optimistic_gradient()", "39[3f800000 3f800000]"},
		{"scale_by_optimistic_gradient(-2.0, -4.0)", "39[c0000000 c0800000]"},
		{"keep_params_in_box(2.0, -4.0)", "40[40000000 c0800000]"},
		{"skip_large(identity(), 0.5)", "41[3f000000](1)"},
		{"until(3, identity(), zero_nans())", "42{3}(1 20)"},
	}
}

// schedCases are the same of the schedules.
func schedCases() [][2]string {
	return [][2]string{
		{"constant(-0.5)", "1[bf000000]"},
		{"linear(2.0, -4.0, 7)", "2[40000000 c0800000]{1 7 0}"},
		{"linear(2.0, -4.0, 7, 9)", "2[40000000 c0800000]{1 7 9}"},
		{"polynomial(2.0, -4.0, 3, 7)", "2[40000000 c0800000]{3 7 0}"},
		{"polynomial(2.0, -4.0, 3, 7, 9)", "2[40000000 c0800000]{3 7 9}"},
		{"exponential(-2.0, 7, 0.5)", "3[c0000000 3f000000]{7 0}"},
		{"exponential(-2.0, 7, 0.5, 9)", "3[c0000000 3f000000]{7 9}"},
		{"cosine(-2.0, 7)", "4[c0000000 00000000]{7}"},
		{"cosine(-2.0, 7, -0.5)", "4[c0000000 bf000000]{7}"},
		{"inverse(-2.0, 7)", "7[c0000000]{7}"},
		{"plus(constant(1), 2)", "8(1[3f800000] 1[40000000])"},
		{"times(constant(1), 2)", "9(1[3f800000] 1[40000000])"},
		{"least(constant(1), 2)", "10(1[3f800000] 1[40000000])"},
		{"most(constant(1), 2)", "11(1[3f800000] 1[40000000])"},
		{"after(7, constant(1))", "12{7}(1[3f800000])"},
		{"hold(constant(1), 7)", "13{7}(1[3f800000])"},
		{"piecewise(-2.0, 7, -4.0)", "5[c0000000 c0800000]{7}"},
		{"piecewise(2.0, 7, 4.0, 8, 0.5, 100, 0.25)", "5[40000000 40800000 3f000000 3e800000]{7 8 100}"},
		{"join(constant(1), 7, constant(2))", "6{7}(1[3f800000] 1[40000000])"},
		{"join(1, 7, inverse(2.0, 3), 8, 4)", "6{7 8}(1[3f800000] 7[40000000]{3} 1[40800000])"},
		{"warmup(-2.0, 7, constant(0.5))", "6{7}(2[00000000 c0000000]{1 7 0} 1[3f000000])"},
	}
}

// TestRows: CH2, each row with the least and with all of its arguments, and the values of those that are left out.
func TestRows(t *testing.T) {
	for _, c := range rowCases() {
		holdTyped(t, read(c[0]), reals(), c[1])
	}
	for _, c := range schedCases() {
		holdTyped(t, read("scale_by_schedule("+c[0]+")"), reals(), "3@"+c[1])
	}
	for _, s := range theTransforms() {
		if !slices.ContainsFunc(rowCases(), func(c [2]string) bool { return strings.HasPrefix(c[0], s.name+"(") }) {
			t.Error("no case of", s.name)
		}
	}
	for _, s := range theSchedules() {
		if !slices.ContainsFunc(schedCases(), func(c [2]string) bool { return strings.HasPrefix(c[0], s.name+"(") }) {
			t.Error("no case of", s.name)
		}
	}
}

// sampleOf is a node that may be given for an argument, another one for each place.
func sampleOf(s slot, place int) api.Node {
	switch s.sort {
	case "num":
		return num(api.F(0x3f000000 - place<<20)) // all of them above 0 and below 1
	case "whole":
		return wholeOf(5 + place)
	case "flag":
		return named("true")
	case "mask":
		return text("*")
	case "schedule":
		return call("constant", wholeOf(5+place))
	}
	return call("scale", wholeOf(5+place))
}

// fullCall is a call of a row without '..' with all of its arguments by place.
func fullCall(s spec) api.Node {
	n := call(s.name)
	for i, o := range s.once {
		n.Args = append(n.Args, sampleOf(o, i))
	}
	return n
}

// orders hands on all orders of the numbers from one up to another.
func orders(from, to int, yield func([]int)) {
	var rest []int
	for i := from; i < to; i++ {
		rest = append(rest, i)
	}
	var choose func(chosen, rest []int)
	choose = func(chosen, rest []int) {
		if len(rest) == 0 {
			yield(chosen)
		}
		for i, r := range rest {
			choose(append(slices.Clone(chosen), r), slices.Delete(slices.Clone(rest), i, i+1))
		}
	}
	choose(nil, rest)
}

// wrapped is a schedule's call as a program; that of a transform is one already.
func wrapped(n api.Node, isSchedule bool) api.Node {
	if isSchedule {
		return call("scale_by_schedule", n)
	}
	return n
}

// eachRow hands on the rows of both tables.
func eachRow(yield func(s spec, isSchedule bool)) {
	for _, s := range theTransforms() {
		yield(s, false)
	}
	for _, s := range theSchedules() {
		yield(s, true)
	}
}

// TestOrders: CH2, all arguments by name in every order, and some by place ahead of the rest by name.
func TestOrders(t *testing.T) {
	eachRow(func(s spec, isSchedule bool) {
		if len(s.more) > 0 {
			return
		}
		full := fullCall(s)
		typed, e, _ := told(wrapped(full, isSchedule), reals())
		if e != api.OK {
			t.Fatal(s.name, e)
		}
		for places := range len(s.once) + 1 {
			orders(places, len(s.once), func(order []int) {
				n := call(s.name, full.Args[:places:places]...)
				for _, i := range order {
					n.Args = append(n.Args, keyed(s.once[i].name, full.Args[i]))
				}
				holdTyped(t, wrapped(n, isSchedule), reals(), dump(typed))
			})
		}
	})
}

// TestLeftOut: CH2, any of the arguments that have a value of their own left out.
func TestLeftOut(t *testing.T) {
	left := 0
	eachRow(func(s spec, isSchedule bool) {
		full := fullCall(s)
		for given := range 1 << len(s.once) {
			n, may := call(s.name), len(s.more) == 0
			for i, o := range s.once {
				if given>>i&1 == 1 {
					n.Args = append(n.Args, keyed(o.name, full.Args[i]))
				} else {
					may = may && o.hasValue
				}
			}
			if may {
				left++
				holdTold(t, wrapped(n, isSchedule), reals(), api.OK)
			} else if len(s.more) == 0 {
				holdTold(t, wrapped(n, isSchedule), reals(), errArity)
			}
		}
	})
	if left < 150 {
		t.Error("only", left, "programs")
	}
}

// holdTold: Check answers what the chapter's words say, which is that error.
func holdTold(t *testing.T, n api.Node, list []api.Param, e api.Errno) {
	t.Helper()
	n = numbered(10, n)
	want, wantError, at := told(n, list)
	if wantError != e {
		t.Errorf("of %s the words say %d, want %d", show(n), wantError, e)
	}
	if wantError == api.OK {
		holdTyped(t, n, list, dump(want))
	} else {
		holdFault(t, n, list, wantError, at)
	}
}
