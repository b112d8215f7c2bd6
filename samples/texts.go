package samples

import (
	"math"
	"slices"
	"strconv"
	"strings"

	"lathe/api"
)

// The calls of programs, a line each: the name, and each argument's name with what may stand for it, and a ? if it may be left out: a number
// as in a Row (a, z, p, u, b), f a flag, k a whole number from 1 on, c one from 0 on, q a power, s a schedule, t a transform, m a mask, r a
// number or a schedule. Behind a + stands what may come again.
const transformCalls = `identity
set_to_zero
scale factor:a
scale_by_schedule schedule:s
clip max_delta:z
clip_by_global_norm max_norm:p
clip_by_block_rms threshold:p
trace decay:u nesterov:f?
ema decay:b debias:f?
scale_by_adam b1:b? b2:b? eps:z? eps_root:z?
scale_by_rms decay:b? eps:z? initial:z?
scale_by_rss initial:z? eps:z?
scale_by_belief b1:b? b2:b? eps:z? eps_root:z?
scale_by_yogi b1:b? b2:b? eps:z? initial:z?
scale_by_amsgrad b1:b? b2:b? eps:z? eps_root:z?
scale_by_lion b1:b? b2:b?
scale_by_sign
scale_by_trust_ratio min_norm:z? coefficient:p? eps:z?
add_decayed_weights weight:a
centralize
zero_nans
keep_params_nonnegative
scale_by_param_block_rms min_scale:z?
apply_every every:k
scale_by_adadelta rho:b? eps:z?
scale_by_adamax b1:b? b2:b? eps:z?
scale_by_stddev decay:b? eps:z? initial:z?
scale_by_novograd b1:b? b2:b? eps:z? eps_root:z? weight_decay:a?
normalize_by_update_norm scale:a? eps:z?
scale_by_param_block_norm min_scale:z?
clip_by_block_norm max_norm:p
adaptive_grad_clip clipping:p eps:z?
scale_by_optimistic_gradient alpha:a? beta:a?
keep_params_in_box low:a high:a
scale_by_learning_rate rate:r
sgd rate:r momentum:u? nesterov:f?
adam rate:r b1:b? b2:b? eps:z? eps_root:z?
adamw rate:r b1:b? b2:b? eps:z? eps_root:z? weight_decay:a? mask:m?
amsgrad rate:r b1:b? b2:b? eps:z? eps_root:z?
adabelief rate:r b1:b? b2:b? eps:z? eps_root:z?
yogi rate:r b1:b? b2:b? eps:z? initial:z?
adadelta rate:r rho:b? eps:z?
adamax rate:r b1:b? b2:b? eps:z?
novograd rate:r b1:b? b2:b? eps:z? eps_root:z? weight_decay:a?
optimistic rate:r alpha:a? beta:a?
agc rate:r clipping:p? eps:z? momentum:u? nesterov:f?
adagrad rate:r initial:z? eps:z?
rmsprop rate:r decay:b? eps:z? initial:z? momentum:u?
lion rate:r b1:b? b2:b? weight_decay:a? mask:m?
lamb rate:r b1:b? b2:b? eps:z? eps_root:z? weight_decay:a? mask:m?
lars rate:r weight_decay:a? trust_coefficient:p? eps:z? momentum:u? nesterov:f?`

const outerCalls = `chain + :t
masked mask:m inner:t
partition :m + :t :m + :t :t
multi_steps every:k inner:t
apply_if_finite inner:t max_errors:c
split_real_and_imaginary inner:t
skip_large inner:t max_norm:p
until steps:k first:t then:t`

const scheduleCalls = `constant value:a
linear from:a to:a steps:k begin:c?
polynomial from:a to:a power:q steps:k begin:c?
exponential from:a steps:k rate:p begin:c?
cosine from:a steps:k alpha:a?
inverse from:a steps:k`

const outerScheduleCalls = `plus a:s b:s
times a:s b:s
least a:s b:s
most a:s b:s
after begin:c schedule:s
hold schedule:s steps:c
piecewise :a + :w :a
join :s + :w :s
warmup peak:a steps:k then:s`

// CallNames are those of all calls that a text may have but for masks.
func CallNames() []string {
	var names []string
	for line := range strings.SplitSeq(strings.Join([]string{transformCalls, outerCalls, scheduleCalls, outerScheduleCalls}, "\n"), "\n") {
		name, _, _ := strings.Cut(line, " ")
		names = append(names, name)
	}
	return names
}

// A writing is a program's text on its way.
type writing struct {
	*Grower
	list  []api.Param
	lets  []let
	ahead int // the greatest boundary so far of the call that is being written
}

// A let is a name, and what it may stand for.
type let struct {
	name string
	sort byte
}

// Text is a program over these parameters, with calls at most so deep in one another, by arguments by place and by name, with lets, blanks
// and comments. Mostly it has a typed program; a glob may mean no parameter, and something may see complex numbers though it may not.
func (g *Grower) Text(list []api.Param, depth int) string {
	w := &writing{Grower: g, list: list}
	text := w.blank()
	for range max(0, g.Below(6)-2) {
		sort := "azpubfkcqstmr"[g.Below(13)]
		name := []string{"a", "b1", "lr", "let", "scale", "all"}[g.Below(6)]
		value := w.value(sort, 1+g.Below(depth))
		w.lets = slices.DeleteFunc(w.lets, func(l let) bool { return l.name == name }) // it stands for the later one from here on
		w.lets = append(w.lets, let{name, sort})
		text += "let " + w.blank() + name + w.blank() + "=" + w.blank() + value + w.blank() + ";" + w.blank()
	}
	program := w.call(depth)
	if g.Below(4) == 0 {
		program = "split_real_and_imaginary(" + program + ")"
	}
	return text + program + w.blank()
}

// blank is what means nothing between two tokens: mostly nothing.
func (w *writing) blank() string {
	return []string{" ", "\n", "\t\r ", "# half (\n", "", "", "", "", "", "", "", ""}[w.Below(12)]
}

// call is a transform, at most so many calls in one another.
func (w *writing) call(depth int) string {
	if depth > 1 && w.Below(3) > 0 {
		return w.from(outerCalls, depth)
	}
	return w.from(transformCalls, depth)
}

func (w *writing) schedule(depth int) string {
	switch which := w.Below(8); {
	case which == 0:
		return w.number('a')
	case depth > 1 && which > 2:
		return w.from(outerScheduleCalls, depth)
	}
	return w.from(scheduleCalls, depth)
}

// from is a call of one of these lines.
func (w *writing) from(lines string, depth int) string {
	all := strings.Split(lines, "\n")
	words := strings.Fields(all[w.Below(len(all))])
	name, args := words[0], words[1:]
	if slices.Contains(args, "+") {
		args = w.inTurns(args)
	}
	return name + w.blank() + "(" + w.blank() + strings.Join(w.arguments(args, depth), ",") + ")"
}

// inTurns are the arguments of a call that takes any number of them.
func (w *writing) inTurns(words []string) []string {
	if len(words) > 5 { // masks and transforms in turns, and a last transform
		return append(slices.Repeat([]string{":m", ":t"}, 1+w.Below(2)), ":t")
	}
	at := slices.Index(words, "+")
	return append(slices.Clone(words[:at]), slices.Repeat(words[at+1:], 1+w.Below(3))...)
}

// arguments are those of a call, some of the first ones by place, the others by name in any order.
func (w *writing) arguments(words []string, depth int) []string {
	ahead := w.ahead
	w.ahead = 0
	var texts []string
	places := w.Below(len(words) + 1)
	for n, word := range words {
		name, sort, _ := strings.Cut(word, ":")
		if n < places || name == "" {
			texts = append(texts, w.blank()+w.value(sort[0], depth-1)+w.blank())
		} else if !strings.HasSuffix(sort, "?") || w.Below(2) == 0 {
			text := w.blank() + name + w.blank() + "=" + w.blank() + w.value(sort[0], depth-1) + w.blank()
			texts = slices.Insert(texts, places+w.Below(len(texts)-places+1), text)
		}
	}
	w.ahead = ahead
	return texts
}

// value is something that may stand for an argument of a sort.
func (w *writing) value(sort byte, depth int) string {
	if l := w.let(sort); l != "" {
		return l
	}
	switch sort {
	case 'f':
		return []string{"true", "false"}[w.Below(2)]
	case 'k', 'c', 'q', 'w':
		return w.whole(sort)
	case 's':
		return w.schedule(depth)
	case 't':
		return w.call(depth)
	case 'm':
		return w.mask(1 + w.Below(3))
	case 'r':
		if w.Below(2) == 0 {
			return w.schedule(depth)
		}
		return w.number('p')
	}
	return w.number(sort)
}

// let is the name of one that may stand there, sometimes; or nothing.
func (w *writing) let(sort byte) string {
	for _, l := range w.lets {
		if l.sort == sort && w.Below(2) == 0 {
			return l.name
		}
	}
	return ""
}

func (w *writing) whole(sort byte) string {
	switch sort {
	case 'q':
		return strconv.Itoa([]int{1, 2, 3, 5, 1024, 1000}[w.Below(6)])
	case 'w':
		w.ahead += 1 + w.Below(3)
		return strconv.Itoa(w.ahead)
	case 'c':
		return strconv.Itoa(w.steps(0))
	}
	return strconv.Itoa(w.steps(1))
}

// number is one of a range of a Row, with a point or an exponent or without.
func (w *writing) number(bounds byte) string {
	a := w.Bounded(bounds)
	text := strconv.FormatFloat(float64(math.Float32frombits(uint32(a))), 'g', -1, 32)
	if strings.ContainsAny(text, ".e") || len(text) < 8 && w.Below(2) == 0 {
		return text
	}
	return text + ".0"
}

// mask is one that means some of the parameters, or none.
func (w *writing) mask(depth int) string {
	if depth > 1 && w.Below(2) == 0 {
		if w.Below(3) == 0 {
			return "not(" + w.mask(depth-1) + ")"
		}
		return []string{"and(", "or("}[w.Below(2)] + w.mask(depth-1) + "," + w.blank() + w.mask(depth-1) + ")"
	}
	if len(w.list) > 0 && w.Below(2) == 0 {
		name := w.list[w.Below(len(w.list))].Name
		return `"` + []string{name, name, name[:1] + "*", "*" + name[1:]}[w.Below(4)] + `"`
	}
	return []string{`"*"`, "all()", "none()", "real()", "complex()"}[w.Below(5)]
}
