package check

import (
	"math"
	"slices"
	"strconv"
	"strings"
	"sync"

	"lathe/api"
)

// The chapter's tables, a row a line: the Op's number, with its star; the name; each argument with its sort, its range and its value. A row
// with '..' has what stands ahead of it once, what comes again behind a +, and what stands behind it behind a /.
const transformLines = `1 identity
29 set_to_zero
2 scale factor:num:any
3 scale_by_schedule schedule:schedule
4* clip max_delta:num:from0
5 clip_by_global_norm max_norm:num:above0
6 clip_by_block_rms threshold:num:above0
7 trace decay:num:0to1 nesterov:flag:=false
8 ema decay:num:0below1 debias:flag:=true
9 scale_by_adam b1:num:0below1=0.9 b2:num:0below1=0.999 eps:num:from0=1e-8 eps_root:num:from0=0.0
10 scale_by_rms decay:num:0below1=0.9 eps:num:from0=1e-8 initial:num:from0=0.0
11 scale_by_rss initial:num:from0=0.1 eps:num:from0=1e-7
12 scale_by_belief b1:num:0below1=0.9 b2:num:0below1=0.999 eps:num:from0=1e-16 eps_root:num:from0=1e-16
13 scale_by_yogi b1:num:0below1=0.9 b2:num:0below1=0.999 eps:num:from0=1e-3 initial:num:from0=1e-6
14 scale_by_amsgrad b1:num:0below1=0.9 b2:num:0below1=0.999 eps:num:from0=1e-8 eps_root:num:from0=0.0
15* scale_by_lion b1:num:0below1=0.9 b2:num:0below1=0.99
16* scale_by_sign
17 scale_by_trust_ratio min_norm:num:from0=0.0 coefficient:num:above0=1.0 eps:num:from0=0.0
18 add_decayed_weights weight:num:any
19 centralize
20 zero_nans
21* keep_params_nonnegative
22 scale_by_param_block_rms min_scale:num:from0=1e-3
23 chain + :transform
24 masked mask:mask inner:transform
25 partition + :mask :transform / :transform
26 multi_steps every:whole:1to2147483647 inner:transform
30 apply_every every:whole:1to2147483647
27 apply_if_finite inner:transform max_errors:whole:0to2147483647
28 split_real_and_imaginary inner:transform
31 scale_by_adadelta rho:num:0below1=0.9 eps:num:from0=1e-6
32 scale_by_adamax b1:num:0below1=0.9 b2:num:0below1=0.999 eps:num:from0=1e-8
33 scale_by_stddev decay:num:0below1=0.9 eps:num:from0=1e-8 initial:num:from0=0.0
34 scale_by_novograd b1:num:0below1=0.9 b2:num:0below1=0.25 eps:num:from0=1e-6 eps_root:num:from0=0.0 weight_decay:num:any=0.0
35 normalize_by_update_norm scale:num:any=1.0 eps:num:from0=1e-6
36 scale_by_param_block_norm min_scale:num:from0=1e-3
37 clip_by_block_norm max_norm:num:above0
38 adaptive_grad_clip clipping:num:above0 eps:num:from0=1e-3
39 scale_by_optimistic_gradient alpha:num:any=1.0 beta:num:any=1.0
40* keep_params_in_box low:num:any high:num:any
41 skip_large inner:transform max_norm:num:above0
42 until steps:whole:1to2147483647 first:transform then:transform`

const scheduleLines = `1 constant value:num:any
2 linear from:num:any to:num:any steps:whole:1to2147483647 begin:whole:0to2147483647=0
2 polynomial from:num:any to:num:any power:whole:1to1024 steps:whole:1to2147483647 begin:whole:0to2147483647=0
3 exponential from:num:any steps:whole:1to2147483647 rate:num:above0 begin:whole:0to2147483647=0
4 cosine from:num:any steps:whole:1to2147483647 alpha:num:any=0.0
7 inverse from:num:any steps:whole:1to2147483647
8 plus a:schedule b:schedule
9 times a:schedule b:schedule
10 least a:schedule b:schedule
11 most a:schedule b:schedule
12 after begin:whole:0to2147483647 schedule:schedule
13 hold schedule:schedule steps:whole:0to2147483647
5 piecewise :num:any + :whole:rising :num:any
6 join :schedule + :whole:rising :schedule
6 warmup peak:num:any steps:whole:1to2147483647 then:schedule`

// A spec is a row of the tables.
type spec struct {
	op               int
	star             bool
	name             string
	once, more, last []slot
}

// A slot is an argument of a row.
type slot struct {
	name, sort, bounds, value string
	hasValue                  bool
}

func specsOf(lines string) []spec {
	var all []spec
	for line := range strings.SplitSeq(lines, "\n") {
		words := strings.Fields(line)
		one := spec{name: words[1], star: strings.HasSuffix(words[0], "*")}
		one.op, _ = strconv.Atoi(strings.TrimSuffix(words[0], "*"))
		into := &one.once
		for _, word := range words[2:] {
			switch word {
			case "+":
				into = &one.more
			case "/":
				into = &one.last
			default:
				*into = append(*into, slotOf(word))
			}
		}
		all = append(all, one)
	}
	return all
}

func slotOf(word string) slot {
	var s slot
	word, s.value, s.hasValue = strings.Cut(word, "=")
	part := append(strings.Split(word, ":"), "")
	s.name, s.sort, s.bounds = part[0], part[1], part[2]
	return s
}

var theTransforms = sync.OnceValue(func() []spec { return specsOf(transformLines) })
var theSchedules = sync.OnceValue(func() []spec { return specsOf(scheduleLines) })

func specOf(all []spec, name string) (spec, bool) {
	i := slices.IndexFunc(all, func(s spec) bool { return s.name == name })
	if i < 0 {
		return spec{}, false
	}
	return all[i], true
}

// node is what stands for an argument that is left out.
func (s slot) node() api.Node {
	switch s.sort {
	case "flag":
		return named(s.value)
	case "whole":
		n, _ := strconv.Atoi(s.value)
		return wholeOf(n)
	}
	x, _ := strconv.ParseFloat(s.value, 32)
	return num(api.F(math.Float32bits(float32(x))))
}

// holds tells whether a number is in the range.
func (s slot) holds(bitsOf api.F) bool {
	x := math.Float32frombits(uint32(bitsOf))
	if x-x != 0 {
		return false // an infinity or a NaN
	}
	switch s.bounds {
	case "from0":
		return x >= 0
	case "above0":
		return x > 0
	case "0to1":
		return x >= 0 && x <= 1
	case "0below1":
		return x >= 0 && x < 1
	}
	return true
}

// holdsWhole tells whether a whole number is in the range, behind those others.
func (s slot) holdsWhole(n int, ahead []int) bool {
	if s.sort == "flag" {
		return n == 0 || n == 1
	}
	if s.bounds == "rising" {
		return n >= 1 && n <= maxCount && !slices.ContainsFunc(ahead, func(b int) bool { return b >= n })
	}
	low, high, _ := strings.Cut(s.bounds, "to")
	from, _ := strconv.Atoi(low)
	to, _ := strconv.Atoi(high)
	return from <= n && n <= to
}

// slots are the row's arguments where there are so many; false, if there can't be.
func (s spec) slots(count int) ([]slot, bool) {
	if len(s.more) == 0 {
		return s.once, count == len(s.once)
	}
	all := slices.Concat(s.once, s.more)
	for len(all)+len(s.last) < count {
		all = append(all, s.more...)
	}
	all = append(all, s.last...)
	return all, len(all) == count
}
