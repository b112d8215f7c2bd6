package check

import (
	"fmt"
	"slices"
	"strings"
	"testing"

	"lathe/api"
)

// mixed has two real and two complex parameters.
func mixed() []api.Param {
	return []api.Param{{Name: "w", Kind: 1, Len: 3}, {Name: "z", Kind: 2, Len: 2}, {Name: "b", Kind: 1, Len: 1}, {Name: "y", Kind: 2, Len: 5}}
}

// starredCalls are calls of all rows with a star.
func starredCalls() []string {
	return []string{"clip(1.0)", "scale_by_lion()", "scale_by_sign()", "keep_params_nonnegative()", "keep_params_in_box(0, 1)"}
}

// TestStars: CH2, just these rows have a star.
func TestStars(t *testing.T) {
	stars := 0
	for _, c := range rowCases() {
		name, _, _ := strings.Cut(c[0], "(")
		isStar := slices.ContainsFunc(starredCalls(), func(s string) bool { return strings.HasPrefix(s, name+"(") })
		all := []api.Param{{Name: "w", Kind: 2, Len: 1}, {Name: "b", Kind: 2, Len: 1}}
		if isStar {
			stars++
			holdFault(t, placed(4, read(c[0])), all, errComplex, 4)
			holdFault(t, placed(4, read(c[0])), wz(), errComplex, 4)
		} else {
			holdTyped(t, placed(4, read(c[0])), all, c[1])
		}
		holdTyped(t, read(c[0]), reals(), c[1])
	}
	for _, s := range starredCalls() {
		holdTold(t, read(s), reals(), api.OK)
		holdTold(t, read(s), nil, api.OK)
		holdTold(t, read(s), wz()[:1], api.OK)
		holdTold(t, read(s), wz()[1:], errComplex)
	}
	if stars != 6 {
		t.Error(stars, "cases with a star") // lion has two
	}
}

// TestActive: CH2, which parameters a transform with a star sees, within masked, partition and split.
func TestActive(t *testing.T) {
	for _, c := range []struct {
		program string // @ stands for the transform
		sees    bool
	}{
		{"@", true},
		{"chain(@)", true},
		{"chain(identity(), @)", true},
		{"multi_steps(2, @)", true},
		{"apply_if_finite(@, 1)", true},
		{"skip_large(@, 1)", true},
		{"until(1, @, identity())", true},
		{"until(1, identity(), @)", true},
		{"split_real_and_imaginary(@)", false},
		{"split_real_and_imaginary(chain(multi_steps(2, @), @))", false},
		{"chain(split_real_and_imaginary(identity()), @)", true},
		{"chain(split_real_and_imaginary(@), @)", true},
		{`masked("w", @)`, false},
		{`masked("z", @)`, true},
		{`masked("z", split_real_and_imaginary(@))`, false},
		{`split_real_and_imaginary(masked("z", @))`, false},
		{"masked(all(), @)", true},
		{"masked(none(), @)", false},
		{"masked(real(), @)", false},
		{"masked(complex(), @)", true},
		{"masked(not(complex()), @)", false},
		{`masked(or("w", "y"), @)`, true},
		{`masked(and("*", "?", "b"), @)`, false},
		{`chain(masked("w", identity()), @)`, true},
		{`chain(masked("w", @), @)`, true},
		{`masked("w", masked("z", @))`, false},
		{`masked("z", masked("w", @))`, false},
		{`masked("z", masked("y", @))`, false},
		{`masked("z", masked(complex(), @))`, true},
		{`masked(not("z"), masked(not("y"), @))`, false},
		{`masked(not("z"), masked(not("b"), @))`, true},
		{`partition("w", @, identity())`, false},
		{`partition("z", @, identity())`, true},
		{`partition("w", identity(), @)`, true},
		{"partition(complex(), identity(), @)", false},
		{"partition(real(), identity(), @)", true},
		{"partition(real(), @, identity())", false},
		{`partition("z", identity(), all(), @, identity())`, true},
		{`partition("z", identity(), "z", @, identity())`, false},
		{`partition("z", identity(), "y", identity(), @)`, false},
		{`partition("z", identity(), "y", identity(), all(), @, @)`, false},
		{`partition("z", identity(), "y", identity(), complex(), @, @)`, false},
		{`partition("z", identity(), all(), identity(), @)`, false},
		{`partition("b", @, "w", @, "y", identity(), @)`, true},
		{`partition("b", @, "w", @, "y", identity(), "z", identity(), @)`, false},
		{`partition("b", @, "w", @, "y", @, "z", identity(), identity())`, true},
		{`partition(all(), identity(), all(), @, @)`, false},
		{"partition(none(), @, all(), identity(), @)", false},
		{"partition(none(), identity(), @)", true},
		{`masked("w", partition("z", @, identity()))`, false},
		{`masked("w", partition("z", identity(), @))`, false},
		{`masked("z", partition("w", identity(), @))`, true},
		{`masked("z", partition("w", @, identity()))`, false},
		{`masked("z", partition("z", identity(), @))`, false},
		{`masked(not("y"), partition("z", identity(), "y", @, @))`, false},
		{`partition("z", masked("y", @), identity())`, false},
		{`partition("z", masked("z", @), identity())`, true},
		{`partition("z", identity(), masked("z", @))`, false},
		{`partition("z", identity(), masked("y", @))`, true},
		{`partition("z", identity(), masked(complex(), partition("y", identity(), @)))`, false},
		{`partition("z", identity(), partition("z", @, "y", identity(), @))`, false},
		{`partition("z", identity(), partition("z", @, "y", @, identity()))`, true},
		{`partition("z", partition("y", @, "w", @, "z", identity(), @), identity())`, false},
		{`partition("z", partition("y", @, "w", @, identity()), split_real_and_imaginary(@))`, false},
		{`partition("z", split_real_and_imaginary(@), @)`, true},
		{`partition("z", split_real_and_imaginary(@), "y", split_real_and_imaginary(@), @)`, false},
	} {
		for _, s := range starredCalls() {
			n := read(strings.ReplaceAll(c.program, "@", s))
			e := api.OK
			if c.sees {
				e = errComplex
			}
			holdTold(t, n, mixed(), e)
			holdTold(t, n, realsOf(mixed()), api.OK)
		}
	}
}

// realsOf is the signature with real parameters alone.
func realsOf(list []api.Param) []api.Param {
	list = slices.Clone(list)
	for i := range list {
		list[i].Kind = 1
	}
	return list
}

// TestComplexPlaces: CH2, ErrComplex at the first of several that see complex numbers.
func TestComplexPlaces(t *testing.T) {
	for program, at := range map[string]int{
		"chain(identity(), clip(1.0), clip(1.0))":                                     18,
		`chain(masked("w", clip(1.0)), masked("y", clip(1.0)))`:                       42,
		`partition("w", clip(1.0), "z", chain(scale(1), scale_by_sign()), clip(1.0))`: 47,
		`partition("w", clip(1.0), "z", identity(), clip(1.0))`:                       43,
		`let c = clip(1.0); chain(masked("b", c), c)`:                                 41,
		"lion(0.1)":                    0,
		"chain(identity(), lion(0.1))": 18,
		"until(5, split_real_and_imaginary(clip(1)), clip(1))": 44,
	} {
		holdFault(t, read(program), mixed(), errComplex, at)
	}
}

// TestMasks: CH2, masks of every kind, by mask.Set over the whole signature, whatever is active.
func TestMasks(t *testing.T) {
	for mask, want := range map[string]string{
		`"w"`: "0", `"z"`: "1", `"?"`: "0 1 2 3", `"*"`: "0 1 2 3", "all()": "0 1 2 3", "none()": "", "real()": "0 2", "complex()": "1 3",
		`not("w")`: "1 2 3", `and("*", real(), not("b"))`: "0", `or("b", "z")`: "1 2", "and(all())": "0 1 2 3", "not(not(none()))": "", "not(all())": "",
	} {
		holdTyped(t, read("masked("+mask+", identity())"), mixed(), "24<"+want+">(1)")
		holdTyped(t, read("masked(mask="+mask+", inner=identity())"), mixed(), "24<"+want+">(1)")
		holdTyped(t, read("masked(inner=identity(), mask="+mask+")"), mixed(), "24<"+want+">(1)")
		holdTyped(t, read("partition("+mask+`, identity(), "w", scale(1), `+mask+", centralize(), zero_nans())"), mixed(), "25<"+want+"><0><"+want+">(1 2[3f800000] 19 20)")
		holdTyped(t, read(`masked("w", masked(`+mask+", identity()))"), mixed(), "24<0>(24<"+want+">(1))")
		holdTyped(t, read(`partition("w", masked(`+mask+", identity()), identity())"), mixed(), "25<0>(24<"+want+">(1) 1)")
	}
	for _, c := range []struct {
		mask string
		e    api.Errno
		at   int
	}{
		{`"q"`, errNone, 0}, {`""`, errNone, 0}, {`not("q")`, errNone, 4}, {`or("w", "q*")`, errNone, 8}, {`and(none(), "q")`, errNone, 12},
		{"foo()", errMask, 0}, {"not()", errMask, 0}, {"and()", errMask, 0}, {`all("w")`, errMask, 0}, {`not("w", "z")`, errMask, 0}, {"not(1)", errMask, 4},
		{`or("w", true)`, errMask, 8}, {`not(m="w")`, errMask, 6}, {"identity()", errMask, 0}, {"adam(1)", errMask, 0}, {"not(foo())", errMask, 4},
		{"1", errType, 0}, {"1.5", errType, 0}, {"true", errType, 0}, {"w", errType, 0},
	} {
		holdFault(t, read("masked("+c.mask+", identity())"), mixed(), c.e, 7+c.at)
		holdFault(t, read("masked(inner=identity(), mask="+c.mask+")"), mixed(), c.e, 30+c.at)
		holdFault(t, read(`partition("w", identity(), `+c.mask+", foo(), identity())"), mixed(), c.e, 27+c.at)
	}
	holdFault(t, read(`let m = not("q"); masked(m, foo())`), mixed(), errNone, 25)
	holdFault(t, read(`masked("w", identity())`), nil, errNone, 7)
	holdTyped(t, read(`masked(all(), identity())`), nil, "24<>(1)")
}

// TestManyParameters: CH2, the last of as many parameters as there can be is seen too.
func TestManyParameters(t *testing.T) {
	var list []api.Param
	for i := range 64 {
		list = append(list, api.Param{Name: fmt.Sprint("p", i), Kind: 1, Len: 1})
	}
	for _, place := range []int{0, 1, 31, 32, 62, 63} {
		list[place].Kind = 2
		name := fmt.Sprintf("%q", list[place].Name)
		holdTold(t, read("clip(1)"), list, errComplex)
		holdTold(t, read("masked("+name+", clip(1))"), list, errComplex)
		holdTold(t, read("masked(not("+name+"), clip(1))"), list, api.OK)
		holdTold(t, read("partition("+name+", identity(), clip(1))"), list, api.OK)
		holdTold(t, read("partition(not("+name+"), clip(1), identity())"), list, api.OK)
		holdTold(t, read("partition(not("+name+"), identity(), clip(1))"), list, errComplex)
		list[place].Kind = 1
		holdTold(t, read("clip(1)"), list, api.OK)
	}
}
