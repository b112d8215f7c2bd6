package fold

import (
	"strings"
	"testing"
)

// TestIdentities: FO3, each case of the third rule, with a number as D and with a vector, in and out of loops.
func TestIdentities(t *testing.T) {
	for _, c := range []struct{ bits, ofNumber, ofVector string }{
		{"3f800000", "Mul D2 A1 B0", "Mul D9 A8 B0"}, {"3f800000", "Mul D2 A0 B1", "Mul D9 A0 B8"}, {"3f800000", "Div D2 A1 B0", "Div D9 A8 B0"},
		{"80000000", "Add D2 A1 B0", "Add D9 A8 B0"}, {"80000000", "Add D2 A0 B1", "Add D9 A0 B8"}, {"00000000", "Sub D2 A1 B0", "Sub D9 A8 B0"},
	} {
		ahead := "Number D0 =" + c.bits + ";"
		holdList(t, ahead+"Load D1;"+c.ofNumber+"; Store A2", ahead+"Load D1; Copy D2 A1; Store A2")
		holdList(t, ahead+"Grad D8; Sum D1 A8;"+c.ofNumber+"; Store A2", ahead+"Grad D8; Sum D1 A8; Copy D2 A1; Store A2")
		holdList(t, ahead+"Grad D8;"+c.ofVector+"; Out A9; Store A9 N2", ahead+"Grad D8; Copy D9 A8; Out A9; Store A9 N2")
		holdList(t, ahead+"Loop; Grad D8;"+c.ofVector+"; Out A9; Next", ahead+"Loop; Grad D8; Copy D9 A8; Out A9; Next")
		holdList(t, "Load D4 N1;"+ahead+"When A4; Grad D8;"+c.ofVector+"; Out A9; End", "Load D4 N1;"+ahead+"When A4; Grad D8; Copy D9 A8; Out A9; End")
		holdList(t, ahead+ahead+"Load D1;"+c.ofNumber+";"+ahead+"Store A2", ahead+ahead+"Load D1; Copy D2 A1;"+ahead+"Store A2")
		onItself := strings.NewReplacer("D2", "D1", "D9", "D8")
		holdList(t, ahead+"Load D1;"+onItself.Replace(c.ofNumber)+"; Store A1", ahead+"Load D1; Copy D1 A1; Store A1")
		holdList(t, ahead+"Grad D8;"+onItself.Replace(c.ofVector)+"; Out A8", ahead+"Grad D8; Copy D8 A8; Out A8")
	}
}

// TestNoIdentities: FO4, what stands beside the third rule's cases stays: other constants, the other side, another operation, a register
// that is not constant, one and the same register twice.
func TestNoIdentities(t *testing.T) {
	for _, c := range []struct{ op, a, b string }{ // the constants that are one as A, as B
		{"Mul", "3f800000", "3f800000"}, {"Div", "-", "3f800000"}, {"Add", "80000000", "80000000"}, {"Sub", "-", "00000000"}, {"Min", "-", "-"}, {"Max", "-", "-"}, {"Less", "-", "-"},
	} {
		for _, bits := range []string{"00000000", "80000000", "3f800000", "bf800000", "40000000", "3f800001", "3f7fffff", "00000001", "80000001", "7f800000", "ff800000", "7fc00000", "7f7fffff"} {
			ahead := "Number D0 =" + bits + ";"
			if bits != c.a {
				holdStays(t, ahead+"Load D1;"+c.op+" D2 A0 B1; Store A2")
				holdStays(t, ahead+"Grad D8;"+c.op+" D9 A0 B8; Out A9; Store A9 N2")
			}
			if bits != c.b {
				holdStays(t, ahead+"Load D1;"+c.op+" D2 A1 B0; Store A2")
				holdStays(t, ahead+"Grad D8;"+c.op+" D9 A8 B0; Out A9; Store A9 N2")
			}
			holdStays(t, "Load D1;"+c.op+" D2 A1 B1; Store A2")
			holdStays(t, "Grad D8;"+c.op+" D9 A8 B8; Out A9; Store A9 N2")
			holdStays(t, ahead+"Load D0;"+"Load D1;"+c.op+" D2 A0 B1;"+c.op+" D3 A1 B0; Store A2; Store A3 N5")
		}
	}
	for _, text := range []string{"Neg D1 A0; Neg D2 A1", "Abs D1 A0; Abs D2 A1", "Min D2 A0 B0", "Max D2 A0 B0", "Sub D1 A0 B0; Add D2 A1 B0", "Select D2 A0 B0 C0"} {
		holdStays(t, "Load D0;"+text+"; Store A2")
	}
	holdStays(t, "Load D4 N1; Whole D5; Minus D6 A4 B5; Whole D7 N1; Over D4 A4 B7; Same D6 A6 B6; Store A4 N1; Store A6 N6")
	holdStays(t, "Load D0; Whole D4 N1; Power D1 A0 B4; Store A1")
}

// TestOtherIsNoVector: FO3 and FO4, where D is a vector and the other operand is a number, all stays.
func TestOtherIsNoVector(t *testing.T) {
	for _, c := range []struct{ bits, op string }{{"3f800000", "Mul"}, {"3f800000", "Div"}, {"80000000", "Add"}, {"00000000", "Sub"}} {
		ahead := "Number D0 =" + c.bits + ";"
		holdStays(t, ahead+"Load D1;"+c.op+" D8 A1 B0; Out A8")
		holdStays(t, ahead+"Load D1;"+c.op+" D8 A0 B1; Out A8")
		holdStays(t, ahead+"Loop; "+c.op+" D8 A0 B0; Out A8; Next")
		holdStays(t, ahead+"Number D1 =40000000;"+c.op+" D8 A1 B0;"+c.op+" D9 A0 B1;"+c.op+" D10 A0 B0; Out A8; Out A9; Store A10 N2")
		holdList(t, ahead+"Number D1 =40000000;"+c.op+" D2 A1 B0; Store A2", ahead+"Number D1 =40000000; Number D2 =40000000; Store A2")
	}
}
