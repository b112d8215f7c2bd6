package samples

import (
	"slices"
	"strconv"
	"strings"

	"lathe/api"
)

// Names are those of the instructions, the first one of Op 1.
func Names() []string {
	return strings.Fields("Number Whole Copy Add Sub Mul Div Min Max Less Sqrt Neg Abs Finite Select Power From Test Sum Least Inc Less2 Same And Not Choose Minus Over Grad Param Out Load Store When End Loop Next")
}

// Fields are the fields that the row of each Op names, of Op 1 the first; '=' is Bits.
func Fields() []string {
	return strings.Fields("D= DN DA DAB DAB DAB DAB DAB DAB DAB DA DA DA DA DABC DAB DA DA DA DA DA DAB DAB DAB DA DABC DAB DAB DN DN AN DN AN A - N -")
}

// Field is the field of an instruction that a letter names, '?' its Op; nil, if there is none.
func Field(i *api.Inst, letter byte) *int {
	switch letter {
	case 'D':
		return &i.D
	case 'A':
		return &i.A
	case 'B':
		return &i.B
	case 'C':
		return &i.C
	case 'N':
		return &i.N
	case '?':
		return &i.Op
	}
	return nil
}

// Read is the instructions of a text, such as "Number D0 =3f000000; Mul D1 A1 B0": what is not named is 0. "?" has the Op 0. It
// panics, if a test is written wrongly.
func Read(text string) []api.Inst {
	var list []api.Inst
	for _, piece := range strings.Split(text, ";") {
		words := strings.Fields(piece)
		if len(words) == 0 {
			continue
		}
		i := api.Inst{Op: 1 + slices.Index(Names(), words[0])}
		ok := i.Op != 0 || words[0] == "?"
		for _, word := range words[1:] {
			ok = ok && readField(&i, word)
		}
		if !ok {
			panic("no instruction: " + piece)
		}
		list = append(list, i)
	}
	return list
}

func readField(i *api.Inst, word string) bool {
	if hex, ok := strings.CutPrefix(word, "="); ok {
		pattern, err := strconv.ParseUint(hex, 16, 32)
		i.Bits = api.F(pattern)
		return err == nil
	}
	n, err := strconv.Atoi(word[1:])
	place := Field(i, word[0])
	if err != nil || place == nil {
		return false
	}
	*place = n
	return true
}

// Counts is how many instructions there are of each Op.
func Counts(c api.Code) map[int]int {
	count := map[int]int{}
	for _, i := range c.List {
		count[i.Op]++
	}
	return count
}

// Show is code as a text, of a long one the beginning.
func Show(c api.Code) string {
	var list, params, regs, slots []string
	for _, i := range c.List[:min(len(c.List), 60)] {
		list = append(list, ShowInst(i))
	}
	for _, p := range c.Sign[:min(len(c.Sign), 5)] {
		params = append(params, p.Name+" "+showNumbers(p.Kind, p.Len))
	}
	for _, t := range c.Regs[:min(len(c.Regs), 20)] {
		regs = append(regs, showNumbers(t.Kind, t.Param))
	}
	for _, s := range c.Slots[:min(len(c.Slots), 10)] {
		slots = append(slots, showNumbers(s.Type.Kind, s.Type.Param)+" "+strconv.FormatBool(s.Keep)+" ="+showPattern(s.Bits)+" "+strconv.Itoa(s.Int))
	}
	return showList(len(c.List), "instructions", list) + ", " + showList(len(c.Sign), "parameters", params) + ", " +
		showList(len(c.Regs), "registers", regs) + ", " + showList(len(c.Slots), "slots", slots)
}

// ShowInst is an instruction as a text that Read reads, if its Op is one.
func ShowInst(i api.Inst) string {
	text := "?" + strconv.Itoa(i.Op)
	if i.Op >= 1 && i.Op <= len(Names()) {
		text = Names()[i.Op-1]
	}
	for _, letter := range []byte("DABCN") {
		text += " " + string(letter) + strconv.Itoa(*Field(&i, letter))
	}
	return text + " =" + showPattern(i.Bits)
}

func showPattern(a api.F) string {
	digits := strconv.FormatUint(uint64(a), 16)
	return strings.Repeat("0", 8-len(digits)) + digits
}

func showNumbers(a, b int) string {
	return strconv.Itoa(a) + " " + strconv.Itoa(b)
}

func showList(count int, what string, list []string) string {
	return strconv.Itoa(count) + " " + what + " [" + strings.Join(list, "; ") + "]"
}
