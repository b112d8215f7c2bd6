// Package surface holds the tests of what all layers share: the numbers of package api's names, and the calls that the chapters list.
package surface

import (
	"testing"

	"lathe/api"
)

// A row is a name of package api with the number that the document gives it.
type row struct {
	name      string
	got, want int
}

func holdRows(t *testing.T, rows []row) {
	t.Helper()
	for _, r := range rows {
		if r.got != r.want {
			t.Errorf("%s is %d, want %d", r.name, r.got, r.want)
		}
	}
}

func TestLimits(t *testing.T) {
	holdRows(t, []row{
		{"MaxSource", api.MaxSource, 1 << 16},
		{"MaxDepth", api.MaxDepth, 64},
		{"MaxNodes", api.MaxNodes, 4096},
		{"MaxName", api.MaxName, 64},
		{"MaxParams", api.MaxParams, 64},
		{"MaxLen", api.MaxLen, 1 << 12},
		{"MaxTotal", api.MaxTotal, 1 << 16},
		{"MaxCount", api.MaxCount, 1<<31 - 1},
		{"MaxPower", api.MaxPower, 1 << 10},
		{"MaxRegs", api.MaxRegs, 1 << 14},
		{"MaxSlots", api.MaxSlots, 1 << 12},
		{"MaxCode", api.MaxCode, 1 << 15},
		{"MaxNest", api.MaxNest, 64},
		{"MaxCost", api.MaxCost, 1 << 32},
		{"MaxScript", api.MaxScript, 1 << 22},
		{"MaxSteps", api.MaxSteps, 4096},
		{"KeepScalar", api.KeepScalar, 16},
		{"KeepWhole", api.KeepWhole, 16},
		{"KeepVector", api.KeepVector, 8},
	})
}

// TestErrors: their type counts too.
func TestErrors(t *testing.T) {
	for _, r := range []struct {
		name string
		got  any
		want api.Errno
	}{
		{"OK", api.OK, 0},
		{"ErrArg", api.ErrArg, 1},
		{"ErrLong", api.ErrLong, 2},
		{"ErrDigits", api.ErrDigits, 30},
		{"ErrGreat", api.ErrGreat, 31},
		{"ErrShape", api.ErrShape, 50},
		{"ErrByte", api.ErrByte, 60},
		{"ErrText", api.ErrText, 61},
		{"ErrNumber", api.ErrNumber, 62},
		{"ErrTree", api.ErrTree, 70},
		{"ErrSyntax", api.ErrSyntax, 80},
		{"ErrDeep", api.ErrDeep, 81},
		{"ErrMany", api.ErrMany, 82},
		{"ErrParam", api.ErrParam, 100},
		{"ErrTwice", api.ErrTwice, 101},
		{"ErrTotal", api.ErrTotal, 102},
		{"ErrMask", api.ErrMask, 110},
		{"ErrNone", api.ErrNone, 111},
		{"ErrName", api.ErrName, 130},
		{"ErrArity", api.ErrArity, 131},
		{"ErrKey", api.ErrKey, 132},
		{"ErrType", api.ErrType, 133},
		{"ErrValue", api.ErrValue, 134},
		{"ErrComplex", api.ErrComplex, 135},
		{"ErrCode", api.ErrCode, 160},
		{"ErrInput", api.ErrInput, 170},
		{"ErrSlots", api.ErrSlots, 180},
		{"ErrSize", api.ErrSize, 181},
		{"ErrMark", api.ErrMark, 240},
		{"ErrSum", api.ErrSum, 241},
		{"ErrCut", api.ErrCut, 242},
		{"ErrForm", api.ErrForm, 243},
		{"ErrBehind", api.ErrBehind, 244},
		{"ErrPrint", api.ErrPrint, 245},
		{"ErrLine", api.ErrLine, 250},
		{"ErrCost", api.ErrCost, 260},
		{"ErrRoom", api.ErrRoom, 261},
		{"ErrScript", api.ErrScript, 300},
		{"ErrSession", api.ErrSession, 301},
	} {
		if r.got != any(r.want) {
			t.Errorf("%s is %d (%T), want %d", r.name, r.got, r.got, r.want)
		}
	}
}

// TestPatterns: their type counts too.
func TestPatterns(t *testing.T) {
	for _, r := range []struct {
		name string
		got  any
		want api.F
	}{
		{"Zero", api.Zero, 0x00000000},
		{"One", api.One, 0x3f800000},
		{"Half", api.Half, 0x3f000000},
		{"Two", api.Two, 0x40000000},
		{"Inf", api.Inf, 0x7f800000},
		{"NaN", api.NaN, 0x7fc00000},
		{"Minus", api.Minus, 0x80000000},
	} {
		if r.got != any(r.want) {
			t.Errorf("%s is %08x (%T), want %08x", r.name, r.got, r.got, r.want)
		}
	}
}

func TestKinds(t *testing.T) {
	holdRows(t, []row{
		{"KindReal", api.KindReal, 1},
		{"KindComplex", api.KindComplex, 2},
	})
}

func TestTokens(t *testing.T) {
	holdRows(t, []row{
		{"TokenEnd", api.TokenEnd, 0},
		{"TokenName", api.TokenName, 1},
		{"TokenNumber", api.TokenNumber, 2},
		{"TokenWhole", api.TokenWhole, 3},
		{"TokenText", api.TokenText, 4},
		{"TokenOpen", api.TokenOpen, 5},
		{"TokenClose", api.TokenClose, 6},
		{"TokenComma", api.TokenComma, 7},
		{"TokenEqual", api.TokenEqual, 8},
		{"TokenMinus", api.TokenMinus, 9},
		{"TokenSemi", api.TokenSemi, 10},
	})
}

func TestNodes(t *testing.T) {
	holdRows(t, []row{
		{"NodeCall", api.NodeCall, 1},
		{"NodeNumber", api.NodeNumber, 2},
		{"NodeWhole", api.NodeWhole, 3},
		{"NodeName", api.NodeName, 4},
		{"NodeText", api.NodeText, 5},
		{"NodeLet", api.NodeLet, 6},
	})
}

func TestSchedules(t *testing.T) {
	holdRows(t, []row{
		{"SchedConstant", api.SchedConstant, 1},
		{"SchedPolynomial", api.SchedPolynomial, 2},
		{"SchedExponential", api.SchedExponential, 3},
		{"SchedCosine", api.SchedCosine, 4},
		{"SchedPiecewise", api.SchedPiecewise, 5},
		{"SchedJoin", api.SchedJoin, 6},
		{"SchedInverse", api.SchedInverse, 7},
		{"SchedPlus", api.SchedPlus, 8},
		{"SchedTimes", api.SchedTimes, 9},
		{"SchedLeast", api.SchedLeast, 10},
		{"SchedMost", api.SchedMost, 11},
		{"SchedAfter", api.SchedAfter, 12},
		{"SchedHold", api.SchedHold, 13},
	})
}

func TestTransforms(t *testing.T) {
	holdRows(t, []row{
		{"TxIdentity", api.TxIdentity, 1},
		{"TxScale", api.TxScale, 2},
		{"TxSchedule", api.TxSchedule, 3},
		{"TxClip", api.TxClip, 4},
		{"TxGlobalNorm", api.TxGlobalNorm, 5},
		{"TxBlockRms", api.TxBlockRms, 6},
		{"TxTrace", api.TxTrace, 7},
		{"TxEma", api.TxEma, 8},
		{"TxAdam", api.TxAdam, 9},
		{"TxRms", api.TxRms, 10},
		{"TxRss", api.TxRss, 11},
		{"TxBelief", api.TxBelief, 12},
		{"TxYogi", api.TxYogi, 13},
		{"TxAmsgrad", api.TxAmsgrad, 14},
		{"TxLion", api.TxLion, 15},
		{"TxSign", api.TxSign, 16},
		{"TxTrust", api.TxTrust, 17},
		{"TxDecay", api.TxDecay, 18},
		{"TxCentralize", api.TxCentralize, 19},
		{"TxZeroNans", api.TxZeroNans, 20},
		{"TxNonnegative", api.TxNonnegative, 21},
		{"TxParamRms", api.TxParamRms, 22},
		{"TxChain", api.TxChain, 23},
		{"TxMasked", api.TxMasked, 24},
		{"TxPartition", api.TxPartition, 25},
		{"TxMultiSteps", api.TxMultiSteps, 26},
		{"TxIfFinite", api.TxIfFinite, 27},
		{"TxSplit", api.TxSplit, 28},
		{"TxZero", api.TxZero, 29},
		{"TxEvery", api.TxEvery, 30},
		{"TxAdadelta", api.TxAdadelta, 31},
		{"TxAdamax", api.TxAdamax, 32},
		{"TxStddev", api.TxStddev, 33},
		{"TxNovograd", api.TxNovograd, 34},
		{"TxNormalize", api.TxNormalize, 35},
		{"TxParamNorm", api.TxParamNorm, 36},
		{"TxBlockNorm", api.TxBlockNorm, 37},
		{"TxAdaptive", api.TxAdaptive, 38},
		{"TxOptimistic", api.TxOptimistic, 39},
		{"TxBox", api.TxBox, 40},
		{"TxSkipLarge", api.TxSkipLarge, 41},
		{"TxUntil", api.TxUntil, 42},
	})
}

func TestTypes(t *testing.T) {
	holdRows(t, []row{
		{"TypeNumber", api.TypeNumber, 1},
		{"TypeWhole", api.TypeWhole, 2},
		{"TypeVector", api.TypeVector, 3},
	})
}

func TestInstructions(t *testing.T) {
	holdRows(t, []row{
		{"OpNumber", api.OpNumber, 1},
		{"OpWhole", api.OpWhole, 2},
		{"OpCopy", api.OpCopy, 3},
		{"OpAdd", api.OpAdd, 4},
		{"OpSub", api.OpSub, 5},
		{"OpMul", api.OpMul, 6},
		{"OpDiv", api.OpDiv, 7},
		{"OpMin", api.OpMin, 8},
		{"OpMax", api.OpMax, 9},
		{"OpLess", api.OpLess, 10},
		{"OpSqrt", api.OpSqrt, 11},
		{"OpNeg", api.OpNeg, 12},
		{"OpAbs", api.OpAbs, 13},
		{"OpFinite", api.OpFinite, 14},
		{"OpSelect", api.OpSelect, 15},
		{"OpPower", api.OpPower, 16},
		{"OpFrom", api.OpFrom, 17},
		{"OpTest", api.OpTest, 18},
		{"OpSum", api.OpSum, 19},
		{"OpLeast", api.OpLeast, 20},
		{"OpInc", api.OpInc, 21},
		{"OpLess2", api.OpLess2, 22},
		{"OpSame", api.OpSame, 23},
		{"OpAnd", api.OpAnd, 24},
		{"OpNot", api.OpNot, 25},
		{"OpChoose", api.OpChoose, 26},
		{"OpMinus", api.OpMinus, 27},
		{"OpOver", api.OpOver, 28},
		{"OpGrad", api.OpGrad, 29},
		{"OpParam", api.OpParam, 30},
		{"OpOut", api.OpOut, 31},
		{"OpLoad", api.OpLoad, 32},
		{"OpStore", api.OpStore, 33},
		{"OpWhen", api.OpWhen, 34},
		{"OpEnd", api.OpEnd, 35},
		{"OpLoop", api.OpLoop, 36},
		{"OpNext", api.OpNext, 37},
	})
}

func TestPasses(t *testing.T) {
	holdRows(t, []row{
		{"PassFold", api.PassFold, 1},
		{"PassReuse", api.PassReuse, 2},
		{"PassPrune", api.PassPrune, 4},
		{"PassFuse", api.PassFuse, 8},
		{"PassAlloc", api.PassAlloc, 16},
		{"PassAll", api.PassAll, 31},
	})
}
