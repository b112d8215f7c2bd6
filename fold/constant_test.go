package fold

import (
	"testing"

	"lathe/samples"
)

// TestSetAlike: a register that several instructions set alike is constant, wherever they stand.
func TestSetAlike(t *testing.T) {
	for _, bits := range []string{"00000000", "80000000", "3f800000", "7f800000", "ff800000", "7fc00000", "00000001"} {
		d := "Number D0 =" + bits + ";"
		holdList(t, d+d+"Abs D1 A0; Store A1", d+d+folds(t, d, "Abs D1 A0")+"Store A1")
		holdList(t, d+"Abs D1 A0;"+d+"Store A1", d+folds(t, d, "Abs D1 A0")+d+"Store A1")
		holdList(t, "Load D4 N1;"+d+"When A4;"+d+"Abs D1 A0; Store A1; End", "Load D4 N1;"+d+"When A4;"+d+folds(t, d, "Abs D1 A0")+"Store A1; End")
		holdList(t, "Load D4 N1;"+d+"Abs D1 A0; Store A1; When A4;"+d+"End", "Load D4 N1;"+d+folds(t, d, "Abs D1 A0")+"Store A1; When A4;"+d+"End")
		holdList(t, "Load D4 N1; When A4;"+d+"Abs D1 A0; Store A1; End; Not D5 A4; When A5;"+d+"Abs D1 A0; Store A1 N5; End",
			"Load D4 N1; When A4;"+d+folds(t, d, "Abs D1 A0")+"Store A1; End; Not D5 A4; When A5;"+d+folds(t, d, "Abs D1 A0")+"Store A1 N5; End")
	}
	for _, n := range []string{"0", "1", "2147483647"} {
		d := "Whole D5 N" + n + ";"
		holdList(t, d+d+"Not D6 A5; Store A6 N1", d+d+folds(t, d, "Not D6 A5")+"Store A6 N1")
		holdList(t, "Load D4 N1;"+d+"When A4;"+d+"End; Not D6 A5; Store A6 N1", "Load D4 N1;"+d+"When A4;"+d+"End;"+folds(t, d, "Not D6 A5")+"Store A6 N1")
	}
}

// folds is what an instruction becomes behind another one, as a text.
func folds(t *testing.T, ahead, text string) string {
	t.Helper()
	d := folded(t, usual(ahead+text))
	i := d.List[len(d.List)-1]
	return samples.ShowInst(i) + ";"
}

// TestSetOtherwise: a register that is set otherwise too is not constant, wherever and by whatever that is.
func TestSetOtherwise(t *testing.T) {
	for _, other := range []string{
		"Number D0 =40400000", "Number D0 =c0000000", "Number D0", "Number D0 =7fc00000", "Load D0", "Load D0 N5", "Grad D8; Sum D0 A8", "Grad D8; Least D0 A8", "Load D1; Neg D0 A1", "Load D4 N1; From D0 A4",
		"Load D1; Load D4 N1; Power D0 A1 B4",
	} {
		holdStays(t, "Number D0 =40000000;"+other+"; Neg D1 A0; Store A1")
		holdStays(t, "Number D0 =40000000; Neg D1 A0; Store A1;"+other)
		holdStays(t, "Load D7 N6; Number D0 =40000000; When A7;"+other+"; End; Neg D1 A0; Store A1")
		holdStays(t, "Load D7 N6; Number D0 =40000000; When A7; Neg D1 A0; Store A1;"+other+"; End")
		holdStays(t, "Load D7 N6; When A7; Number D0 =40000000; Neg D1 A0; Store A1; End;"+other)
	}
	for _, other := range []string{"Whole D4", "Whole D4 N2", "Whole D4 N2147483647", "Load D4 N1", "Load D5 N1; Inc D4 A5", "Load D0; Test D4 A0", "Load D5 N1; Copy D4 A5"} {
		holdStays(t, "Whole D4 N1;"+other+"; Inc D6 A4; When A4; Store A6 N1; End")
		holdStays(t, "Whole D4 N1; Inc D6 A4; When A4; Store A6 N1; End;"+other)
		holdStays(t, "Load D7 N6; Whole D4 N1; When A7;"+other+"; End; Inc D6 A4; Choose D6 A4 B6 C7; Store A6 N1")
	}
	holdStays(t, "Number D0; Number D0 =80000000; Neg D1 A0; Store A1") // noughts of unlike signs are unlike
	holdStays(t, "Number D0 =3f800000; Add D0 A0 B0; Store A0")         // it is set by what reads it
	holdStays(t, "Whole D4; Inc D4 A4; Inc D4 A4; Store A4 N1")
	holdStays(t, "Number D0 =3f800000; Number D0 =40000000; Load D1; Mul D2 A1 B0; Store A2")
	holdList(t, "Number D0 =40000000; Number D1 =40400000; Add D2 A0 B1; Load D3; Neg D2 A3; Neg D3 A2; Store A3", "Number D0 =40000000; Number D1 =40400000; Number D2 =40a00000; Load D3; Neg D2 A3; Neg D3 A2; Store A3")
	holdList(t, "Number D0 =40000000; Neg D1 A0; Abs D1 A0; Sqrt D2 A1; Store A2", "Number D0 =40000000; Number D1 =c0000000; Number D1 =40000000; Sqrt D2 A1; Store A2")
}

// TestBecomesConstant: FO3, a register becomes constant, when what is reckoned makes it alike, and when what set it otherwise goes; what
// stands ahead of that is reckoned too.
func TestBecomesConstant(t *testing.T) {
	holdList(t, "Number D0 =40a00000; Neg D1 A0; Store A1; Number D2 =40000000; Number D3 =40400000; Add D0 A2 B3",
		"Number D0 =40a00000; Number D1 =c0a00000; Store A1; Number D2 =40000000; Number D3 =40400000; Number D0 =40a00000")
	holdList(t, "Whole D4; Number D0 =40a00000; When A4; Load D0; End; Neg D1 A0; Store A1", "Whole D4; Number D0 =40a00000; Number D1 =c0a00000; Store A1")
	holdList(t, "Number D0 =40a00000; Neg D1 A0; Store A1; Whole D4; When A4; Number D0; End", "Number D0 =40a00000; Number D1 =c0a00000; Store A1; Whole D4")
	holdList(t, "Whole D4; Whole D5; When A4; Whole D5 N1; End; When A5; Whole D6 N1; Store A6 N1; End", "Whole D4; Whole D5") // the first block goes, so the second one
	holdList(t, "Whole D6; Whole D5; When A6; Grad D8; Out A8; End; When A5; Whole D6 N1; End; Whole D4; When A4; Whole D5 N1; End", "Whole D6; Whole D5; Whole D4")
	holdList(t, "Whole D4; When A4; Number D0; Neg D1 A0; Store A1; End; Number D1 =3f800000; Load D2; Mul D3 A1 B2; Store A3", "Whole D4; Number D1 =3f800000; Load D2; Copy D3 A2; Store A3")
	holdList(t, "Whole D4 N1; Number D0 =40a00000; When A4; Number D1 =40a00000; Copy D0 A1; End; Neg D2 A0; Store A2", "Whole D4 N1; Number D0 =40a00000; Number D1 =40a00000; Number D0 =40a00000; Number D2 =c0a00000; Store A2")
	holdList(t, "Whole D4; Load D5 N1; Choose D6 A4 B5 C4; Choose D7 A6 B5 C4; Inc D5 A7; Store A5 N1", "Whole D4; Load D5 N1; Whole D6; Whole D7; Whole D5 N1; Store A5 N1")
}
