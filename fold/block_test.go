package fold

import (
	"fmt"
	"strings"
	"testing"

	"lathe/api"
)

// TestSelect: FO3, an OpSelect that a constant register leads becomes a copy of what it takes, or that itself, if it is constant.
func TestSelect(t *testing.T) {
	for bits, isTrue := range map[string]bool{
		"00000000": false, "80000000": false, "7fc00000": false, "3f800000": true, "bf800000": true, "00000001": true, "80000001": true, "7f800000": true, "ff800000": true, "7f7fffff": true,
	} {
		ahead := "Number D0 =" + bits + "; Load D1; Load D2 N5; Grad D8; Param D9;"
		number, vector, other := "2", "9", "1"
		if isTrue {
			number, vector, other = "1", "8", "2"
		}
		holdList(t, ahead+"Select D3 A0 B1 C2; Store A3", ahead+"Copy D3 A"+number+"; Store A3")
		holdList(t, ahead+"Select D10 A0 B8 C9; Out A10", ahead+"Copy D10 A"+vector+"; Out A10")
		holdList(t, ahead+"Select D10 A0 B1 C2; Out A10", ahead+"Copy D10 A"+number+"; Out A10")
		holdList(t, ahead+"Loop; Select D10 A0 B8 C9; Select D11 A0 B1 C2; Out A10; Next; Out A11", ahead+"Loop; Copy D10 A"+vector+"; Copy D11 A"+number+"; Out A10; Next; Out A11")
		holdList(t, ahead+"Select D2 A0 B1 C2; Store A2", ahead+"Copy D2 A"+number+"; Store A2")
		holdList(t, ahead+"Select D3 A0 B0 C0; Store A3", ahead+"Number D3 ="+bits+"; Store A3")
		constant := strings.Replace(ahead, []string{"", "Load D1", "Load D2 N5"}[number[0]-'0'], "Number D"+number+" =40400000", 1)
		holdList(t, constant+"Select D3 A0 B1 C2; Neg D3 A3; Store A3", constant+"Number D3 =40400000; Neg D3 A3; Store A3")
		holdList(t, constant+"Select D3 A0 B1 C2; Neg D"+other+" A3; Store A"+other, constant+"Number D3 =40400000; Number D"+other+" =c0400000; Store A"+other)
		holdList(t, constant+"Select D10 A0 B1 C2; Out A10", constant+"Copy D10 A"+number+"; Out A10")
	}
	holdList(t, "Number D0 =3f800000; Number D1 =40000000; Load D2; Select D3 A0 B1 C2; Sqrt D3 A1; Store A3", "Number D0 =3f800000; Number D1 =40000000; Load D2; Number D3 =40000000; Number D3 =3fb504f3; Store A3")
	for _, text := range []string{"Select D8 A8 B0 C0", "Select D10 A8 B0 C1", "Select D10 A8 B8 C8", "Select D10 A2 B0 C1"} { // what leads is not constant
		holdStays(t, "Number D0 =3f800000; Number D1 =40000000; Load D2; Grad D8;"+text+"; Out A8")
	}
}

// TestChoose: FO3, an OpChoose that a constant register leads.
func TestChoose(t *testing.T) {
	for _, n := range []int{0, 1, 2, maxCount} {
		ahead := fmt.Sprintf("Whole D4 N%d; Load D5 N1; Load D6 N6;", n)
		took := "6"
		if n != 0 {
			took = "5"
		}
		holdList(t, ahead+"Choose D7 A4 B5 C6; Store A7 N1", ahead+"Copy D7 A"+took+"; Store A7 N1")
		holdList(t, ahead+"Choose D5 A4 B5 C6; Store A5 N1", ahead+"Copy D5 A"+took+"; Store A5 N1")
		holdList(t, ahead+"Choose D7 A4 B4 C4; Inc D7 A7; Store A7 N1", ahead+fmt.Sprintf("Whole D7 N%d; Inc D7 A7; Store A7 N1", n))
		constant := strings.Replace(ahead, map[string]string{"5": "Load D5 N1", "6": "Load D6 N6"}[took], "Whole D"+took+" N9", 1)
		holdList(t, constant+"Choose D7 A4 B5 C6; From D0 A7; Store A0", constant+"Whole D7 N9; Number D0 =41100000; Store A0")
	}
	holdStays(t, "Load D4 N1; Whole D5 N1; Whole D6; Choose D7 A4 B5 C6; When A7; Store A7 N1; End")
}

// TestWhen: FO3, a block that is never done goes, of one that is always done the marks go.
func TestWhen(t *testing.T) {
	for _, body := range []string{
		"Grad D8; Out A8", "Number D0 =40000000; Store A0", "Store A4 N1", "Load D5 N1; When A5; Store A4 N1; End", "Loop; Grad D8; Out A8; Next", "Loop; Next; Grad D12 N1; Out A12", "Load D0; Sqrt D0 A0; Store A0 N5; Whole D6 N3; Store A6 N1",
	} {
		behind := "; Param D16; Out A16"
		holdList(t, "Whole D4; When A4;"+body+"; End"+behind, "Whole D4"+behind)
		holdStays(t, "Load D4 N6; When A4;"+body+"; End"+behind)
		for _, n := range []string{"1", "2", "2147483647"} {
			holdList(t, "Whole D4 N"+n+"; When A4;"+body+"; End"+behind, "Whole D4 N"+n+";"+body+behind)
			holdList(t, "Whole D4 N"+n+"; When A4; When A4;"+body+"; End; End"+behind, "Whole D4 N"+n+";"+body+behind)
		}
	}
	holdList(t, "Load D4 N1; Inc D5 A4; Whole D7 N2; Same D5 A7 B7; When A5; Store A7 N1; End", "Load D4 N1; Inc D5 A4; Whole D7 N2; Whole D5 N1; When A5; Store A7 N1; End")
	holdList(t, "Whole D6 N3; Whole D7 N2; Less2 D5 A6 B7; When A5; Store A7 N1; End; Not D4 A5; When A4; Store A6 N1; End", "Whole D6 N3; Whole D7 N2; Whole D5; Whole D4 N1; Store A6 N1")
	holdList(t, "Whole D4 N1; When A4; Number D0 =40000000; End; When A4; Number D0 =40000000; Neg D1 A0; Store A1; End", "Whole D4 N1; Number D0 =40000000; Number D0 =40000000; Number D1 =c0000000; Store A1")
}

// TestEmptyBlocks: FO3, a block without anything in it goes, also one that becomes so; a loop without anything is something.
func TestEmptyBlocks(t *testing.T) {
	holdList(t, "Load D4 N1; When A4; End; Store A4 N1", "Load D4 N1; Store A4 N1")
	holdList(t, "Load D4 N1; When A4; End; When A4; End; When A4; When A4; End; When A4; When A4; End; End; End", "Load D4 N1")
	holdList(t, "Load D4 N1; Whole D5; When A4; When A5; Grad D8; Out A8; End; End", "Load D4 N1; Whole D5")
	holdList(t, "Load D4 N1; Whole D5 N1; When A4; When A5; End; End", "Load D4 N1; Whole D5 N1")
	holdList(t, "Load D4 N1; Whole D5; When A4; When A4; When A5; Grad D8; Out A8; End; End; When A5; End; End; When A4; Store A5 N1; End", "Load D4 N1; Whole D5; When A4; Store A5 N1; End")
	holdList(t, "Load D4 N1; When A4; When A4; End; Store A4 N6; When A4; End; End", "Load D4 N1; When A4; Store A4 N6; End")
	holdStays(t, "Loop; Next; Loop N1; Next; Loop N2; Next")
	holdStays(t, "Load D4 N1; When A4; Loop; Next; End")
	holdList(t, "Whole D4; When A4; Loop; Next; End; Whole D5 N1; When A5; Loop; Next; End", "Whole D4; Whole D5 N1; Loop; Next")
}

// A shape is of blocks, written as brackets: each is one that is never done, one that is always done, or one of which it is not known.
type shape struct {
	ways  string // for each block n, a or u
	list  []string
	want  []string
	count int
}

// walk goes through brackets, and what stands there: a mark, and a store of its own.
func (s *shape) walk(text string, isGone bool) {
	s.put("Store A"+fmt.Sprint(5+s.count%2)+" N1", isGone)
	for text != "" {
		end, depth := 0, 0
		for depth > 0 || end == 0 {
			depth += map[byte]int{'(': 1, ')': -1}[text[end]]
			end++
		}
		way := s.ways[s.count]
		s.count++
		s.put("When A"+map[byte]string{'n': "4", 'a': "6", 'u': "7"}[way], isGone || way != 'u')
		s.walk(text[1:end-1], isGone || way == 'n')
		s.put("End", isGone || way != 'u')
		text = text[end:]
	}
}

func (s *shape) put(text string, isGone bool) {
	s.list = append(s.list, text)
	if !isGone {
		s.want = append(s.want, text)
	}
}

// TestTurnOfBlocks: FO3, blocks behind one another and in one another, each in every way.
func TestTurnOfBlocks(t *testing.T) {
	ahead := "Whole D4; Load D5 N6; Whole D6 N1; Load D7 N1;"
	for _, text := range []string{"()", "()()", "(())", "(()())", "((()))", "()(())()", "(()(()))()", "(((()))())", "((())(()))"} {
		blocks := strings.Count(text, "(")
		for number := range pow(3, blocks) {
			ways := ""
			for range blocks {
				ways += string("nau"[number%3])
				number /= 3
			}
			s := &shape{ways: ways}
			s.walk(text, false)
			holdList(t, ahead+strings.Join(s.list, ";"), ahead+strings.Join(s.want, ";"))
		}
	}
}

func pow(a, n int) int {
	out := 1
	for range n {
		out *= a
	}
	return out
}

// TestDeepest: FO3, MaxNest blocks in one another, each in turn the one that goes, that is always done, that stays.
func TestDeepest(t *testing.T) {
	for at := range maxNest {
		for _, inner := range []int{4, 6, 7} {
			for _, outer := range []int{6, 7} {
				c := usual("Whole D4; Whole D6 N1; Load D7 N1")
				want := usual("Whole D4; Whole D6 N1; Load D7 N1")
				ends := 0
				for depth := range maxNest {
					when := api.Inst{Op: api.OpWhen, A: outer}
					if depth == at {
						when.A = inner
					}
					c.List = append(c.List, when, api.Inst{Op: api.OpStore, A: 7, N: 1})
					if inner == 4 && depth >= at {
						continue
					}
					if when.A == 7 {
						want.List = append(want.List, when)
						ends++
					}
					want.List = append(want.List, api.Inst{Op: api.OpStore, A: 7, N: 1})
				}
				for range maxNest {
					c.List = append(c.List, api.Inst{Op: api.OpEnd})
				}
				for range ends {
					want.List = append(want.List, api.Inst{Op: api.OpEnd})
				}
				if inner == 4 && at == 0 {
					want.List = want.List[:3]
				}
				if d := holdForm(t, c); listedWhole(d.List) != listedWhole(want.List) {
					t.Fatalf("%d %d %d: %s, want %s", at, inner, outer, listed(d.List), listed(want.List))
				}
			}
		}
	}
}

// listedWhole are instructions as a text, all of them.
func listedWhole(list []api.Inst) string { return fmt.Sprint(list) }
