package samples

import (
	"slices"
	"strconv"

	"lathe/api"
)

// A Row is one of the table of transforms: of each number how it is bounded (a: any; z: from 0; p: above 0; u: 0 to 1; b: from 0, below
// 1), whether there is a flag, whether it sees no complex numbers, and how many kids it has at most.
type Row struct {
	Op    int
	Nums  string
	Flag  bool
	Whole int // from where on its whole number is; -1: it has none
	Star  bool
	Kids  int
}

// Rows are those of all transforms.
func Rows() []Row {
	return []Row{
		{1, "", false, -1, false, 0}, {2, "a", false, -1, false, 0}, {4, "z", false, -1, true, 0}, {5, "p", false, -1, false, 0},
		{6, "p", false, -1, false, 0}, {7, "u", true, -1, false, 0}, {8, "b", true, -1, false, 0}, {9, "bbzz", false, -1, false, 0},
		{10, "bzz", false, -1, false, 0}, {11, "zz", false, -1, false, 0}, {12, "bbzz", false, -1, false, 0}, {13, "bbzz", false, -1, false, 0},
		{14, "bbzz", false, -1, false, 0}, {15, "bb", false, -1, true, 0}, {16, "", false, -1, true, 0}, {17, "zpz", false, -1, false, 0},
		{18, "a", false, -1, false, 0}, {19, "", false, -1, false, 0}, {20, "", false, -1, false, 0}, {21, "", false, -1, true, 0},
		{22, "z", false, -1, false, 0}, {29, "", false, -1, false, 0}, {30, "", false, 1, false, 0}, {31, "bz", false, -1, false, 0},
		{32, "bbz", false, -1, false, 0}, {33, "bzz", false, -1, false, 0}, {34, "bbzza", false, -1, false, 0}, {35, "az", false, -1, false, 0},
		{36, "z", false, -1, false, 0}, {37, "p", false, -1, false, 0}, {38, "pz", false, -1, false, 0}, {39, "aa", false, -1, false, 0},
		{40, "aa", false, -1, true, 0}, {26, "", false, 1, false, 1}, {27, "", false, 0, false, 1}, {28, "", false, -1, false, 1},
		{41, "p", false, -1, false, 1}, {42, "", false, 1, false, 2}, {3, "", false, -1, false, 0}, {23, "", false, -1, false, 3},
		{24, "", false, -1, false, 1}, {25, "", false, -1, false, 3},
	}
}

// RowOf is that of a transform.
func RowOf(op int) Row {
	rows := Rows()
	return rows[slices.IndexFunc(rows, func(r Row) bool { return r.Op == op })]
}

// Bounded is a number of a row: an ordinary one, the end of its range, or a far one.
func (g *Grower) Bounded(bounds byte) api.F {
	switch bounds {
	case 'u':
		return []api.F{0, 0x80000000, 0x3f800000, 0x3f7fffff, 0x3f000000, 0x3f666666, 1, 0x3e99999a}[g.Below(8)]
	case 'b':
		return []api.F{0, 0x80000000, 0x3f7fffff, 0x3f000000, 0x3f666666, 0x3f7fbe77, 1, 0x3e99999a}[g.Below(8)]
	}
	a := g.Near(0x3f800000, 4)
	switch g.Below(8) {
	case 0:
		a = g.Near(0x3f800000, 120)
	case 1:
		a = []api.F{1, 0x007fffff, 0x00800000, 0x7f7fffff, 0x3f800000, 0x322bcc77, 0x358637bd, 0x7f000000}[g.Below(8)]
	case 2, 3:
		if bounds != 'p' {
			a = 0
		}
	}
	if bounds == 'a' || a == 0 { // minus nought is from 0 on, too
		return a | api.F(g.Below(2))<<31
	}
	return a &^ 0x80000000
}

// Mask is of some parameters: none, all or any.
func (g *Grower) Mask(params int) []int {
	var list []int
	which := g.Below(4)
	for i := range params {
		if which == 1 || which > 1 && g.Below(2) == 0 {
			list = append(list, i)
		}
	}
	return list
}

// Transform is one of that row, with at most so many in one another. It may be one that sees complex numbers though it may not.
func (g *Grower) Transform(row Row, depth, params int) api.Tx {
	t := api.Tx{Op: row.Op}
	for i := range row.Nums {
		t.Nums = append(t.Nums, g.Bounded(row.Nums[i]))
	}
	if row.Flag {
		t.Ints = []int{g.Below(2)}
	}
	if row.Whole >= 0 {
		t.Ints = []int{row.Whole + g.Below(4)}
		if g.Below(12) == 0 {
			t.Ints[0] = 1<<31 - 1 - g.Below(2)
		}
	}
	kids := row.Kids
	switch row.Op {
	case api.TxSchedule:
		t.Sched = g.Schedule(1 + g.Below(3))
	case api.TxChain:
		kids = 1 + g.Below(kids)
	case api.TxMasked:
		t.Masks = [][]int{g.Mask(params)}
	case api.TxPartition:
		kids -= g.Below(2)
		for range kids - 1 {
			t.Masks = append(t.Masks, g.Mask(params))
		}
	}
	for range kids {
		t.Kids = append(t.Kids, g.AnyTransform(depth-1, params))
	}
	return t
}

// AnyTransform is one of any row, with at most so many in one another.
func (g *Grower) AnyTransform(depth, params int) api.Tx {
	for {
		row := Rows()[g.Below(len(Rows()))]
		if row.Kids == 0 || depth > 1 {
			return g.Transform(row, depth, params)
		}
	}
}

// Program is one that may be, as may tells. What sees complex numbers is split, if that helps.
func (g *Grower) Program(depth, params int, may func(t api.Tx) bool) api.Tx {
	for {
		t := g.AnyTransform(depth, params)
		if may(t) {
			return t
		}
		if t = (api.Tx{Op: api.TxSplit, Kids: []api.Tx{t}}); may(t) {
			return t
		}
	}
}

// Params is a signature of so many parameters at most, of few elements.
func (g *Grower) Params(most int) []api.Param {
	list := []api.Param{}
	for i := range g.Below(most + 1) {
		list = append(list, api.Param{Name: "p" + strconv.Itoa(i), Kind: 1 + g.Below(2), Len: 1 + g.Below(3)})
	}
	return list
}

// Moods are how many there are of Moody.
const Moods = 5

// Moody are vectors that fit a signature: of ordinary numbers, of few others among them, of far ones, of noughts and ones, of edges.
func (g *Grower) Moody(list []api.Param, mood int) [][]api.F {
	vectors := make([][]api.F, len(list))
	for i, p := range list {
		vectors[i] = make([]api.F, p.Len*p.Kind)
		for j := range vectors[i] {
			vectors[i][j] = g.moody(mood)
		}
	}
	return vectors
}

func (g *Grower) moody(mood int) api.F {
	switch which := g.Below(16); {
	case mood == 0 || mood == 1 && which > 0:
		return g.Near(0x3f800000, 3)
	case mood == 2:
		return g.Near(0x3f800000, 70)
	case mood == 3 && which > 2:
		return []api.F{0, 0x80000000, 0x3f800000, 0xbf800000, 0x3f000000, 0x40000000}[g.Below(6)]
	case mood == 4 && which > 1:
		return Edges()[g.Below(len(Edges()))]
	}
	return g.Next()
}
