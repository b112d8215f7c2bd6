package surface

import (
	"lathe/alias"
	"lathe/alloc"
	"lathe/api"
	"lathe/asm"
	"lathe/bits"
	"lathe/check"
	"lathe/code"
	"lathe/decimal"
	"lathe/driver"
	"lathe/float"
	"lathe/fold"
	"lathe/fuse"
	"lathe/house"
	"lathe/interp"
	"lathe/ir"
	"lathe/lex"
	"lathe/lower"
	"lathe/mask"
	"lathe/mealy"
	"lathe/opt"
	"lathe/pair"
	"lathe/parse"
	"lathe/print"
	"lathe/prune"
	"lathe/reuse"
	"lathe/sched"
	"lathe/sign"
	"lathe/tree"
	"lathe/vector"
	"lathe/verify"
	"lathe/vm"
)

// The calls that the chapters list, with their exact signatures: a call that has another one does not compile here.

// Layer 1.
var (
	_ func(api.F) int                         = bits.Class
	_ func(api.F) api.F                       = bits.Canon
	_ func(api.F) (bool, int, int)            = bits.Parts
	_ func(bool, int, int) (api.F, api.Errno) = bits.Make
	_ func(api.F) (int, bool)                 = bits.Key
	_ func(api.F) api.F                       = bits.Next
	_ func(api.F) api.F                       = bits.Prev
	_ func(api.F) string                      = bits.Hex
	_ func(string) (api.F, bool)              = bits.Read
)

// Layer 2.
var (
	_ func(api.F, api.F) api.F        = float.Add
	_ func(api.F, api.F) api.F        = float.Sub
	_ func(api.F, api.F) api.F        = float.Mul
	_ func(api.F, api.F) api.F        = float.Div
	_ func(api.F) api.F               = float.Sqrt
	_ func(api.F) api.F               = float.Neg
	_ func(api.F) api.F               = float.Abs
	_ func(api.F, api.F) api.F        = float.Min
	_ func(api.F, api.F) api.F        = float.Max
	_ func(api.F, api.F) bool         = float.Less
	_ func(api.F, api.F) bool         = float.Equal
	_ func(api.F) bool                = float.Finite
	_ func(api.F, api.F, api.F) api.F = float.Select
	_ func(int) api.F                 = float.FromInt
	_ func(api.F, int) api.F          = float.Power
)

// Layer 3.
var (
	_ func(string) (api.F, api.Errno)      = decimal.Parse
	_ func(api.F) (string, api.Errno)      = decimal.Shortest
	_ func(api.F) (string, int, api.Errno) = decimal.Digits
)

// Layer 4.
var (
	_ func(api.C, api.C) api.C           = pair.Add
	_ func(api.C, api.C) api.C           = pair.Sub
	_ func(api.C) api.C                  = pair.Neg
	_ func(api.C) api.C                  = pair.Conj
	_ func(api.C, api.F) api.C           = pair.Scale
	_ func(api.C, api.C) api.C           = pair.Mul
	_ func(api.C) api.F                  = pair.Square
	_ func(api.C, int) api.C             = pair.Power
	_ func([]api.F) ([]api.C, api.Errno) = pair.Pairs
	_ func([]api.C) []api.F              = pair.Flat
)

// Layer 5.
var (
	_ func(int, ...[]api.F) ([]api.F, api.Errno) = vector.Apply
	_ func([]api.F) api.F                        = vector.Sum
	_ func([]api.F) api.F                        = vector.Squares
	_ func(...[]api.F) api.F                     = vector.Norm
	_ func([]api.F, []api.F) (api.F, api.Errno)  = vector.Dot
	_ func([]api.F) api.F                        = vector.Mean
	_ func([]api.F) api.F                        = vector.Least
	_ func([]api.F) api.F                        = vector.Most
	_ func([]api.F) bool                         = vector.Finite
	_ func([]api.F) []api.F                      = vector.Canon
	_ func(int, api.F) ([]api.F, api.Errno)      = vector.Fill
)

// Layer 6.
var (
	_ func(string) ([]api.Token, api.Errno, int) = lex.Scan
	_ func([]api.Token) string                   = lex.Show
)

// Layer 7.
var (
	_ func(api.Node) api.Errno               = tree.Check
	_ func(api.Node, api.Node) bool          = tree.Equal
	_ func(api.Node) int                     = tree.Count
	_ func(api.Node) int                     = tree.Depth
	_ func(api.Node) api.Node                = tree.Strip
	_ func(api.Node) []string                = tree.Names
	_ func(api.Node, []int) (api.Node, bool) = tree.Find
)

// Layer 8.
var (
	_ func(string) (api.Node, api.Errno, int) = parse.Parse
)

// Layer 9.
var (
	_ func(api.Node) (string, api.Errno)      = print.Print
	_ func(api.Node, int) (string, api.Errno) = print.Pretty
)

// Layer 10.
var (
	_ func([]api.Param) api.Errno                = sign.Check
	_ func(string) ([]api.Param, api.Errno, int) = sign.Parse
	_ func([]api.Param) (string, api.Errno)      = sign.Print
	_ func(api.Param) int                        = sign.Numbers
	_ func([]api.Param) int                      = sign.Total
	_ func([]api.Param, string) (int, bool)      = sign.Find
	_ func([]api.Param, [][]api.F) bool          = sign.Fits
)

// Layer 11.
var (
	_ func(string, string) bool                           = mask.Match
	_ func(api.Node, []api.Param) ([]int, api.Errno, int) = mask.Set
)

// Layer 12.
var (
	_ func() []string                           = alias.Names
	_ func(api.Node) (api.Node, api.Errno, int) = alias.Expand
)

// Layer 13.
var (
	_ func() []string                                      = check.Names
	_ func(api.Node, []api.Param) (api.Tx, api.Errno, int) = check.Check
	_ func(api.Tx, []api.Param) api.Errno                  = check.Valid
)

// Layer 14.
var (
	_ func(api.Sched) api.Errno               = sched.Check
	_ func(api.Sched, int) (api.F, api.Errno) = sched.Value
	_ func(api.F) api.F                       = sched.Wave
)

// Layer 15.
var (
	_ func(api.Tx, []api.Param) (*mealy.Machine, api.Errno)             = mealy.New
	_ func(*mealy.Machine, [][]api.F, [][]api.F) ([][]api.F, api.Errno) = (*mealy.Machine).Step
	_ func(*mealy.Machine) int                                          = (*mealy.Machine).Count
	_ func(*mealy.Machine, int) api.Errno                               = (*mealy.Machine).Jump
	_ func(*mealy.Machine) *mealy.Machine                               = (*mealy.Machine).Clone
)

// Layer 16.
var (
	_ func(api.Code) (api.Errno, int) = ir.Check
	_ func(api.Inst) []int            = ir.Reads
	_ func(api.Inst) bool             = ir.Sets
	_ func(int) bool                  = ir.Elementwise
	_ func(api.Code, api.Code) bool   = ir.Equal
	_ func(api.Code) (int, int)       = ir.Kept
)

// Layer 17.
var (
	_ func(api.Code) (*interp.Run, api.Errno)                        = interp.New
	_ func(*interp.Run, [][]api.F, [][]api.F) ([][]api.F, api.Errno) = (*interp.Run).Step
	_ func(*interp.Run, int) ([]api.F, int, api.Errno)               = (*interp.Run).Slot
	_ func(*interp.Run) *interp.Run                                  = (*interp.Run).Clone
)

// Layer 18.
var (
	_ func(api.Tx, []api.Param) (api.Code, api.Errno) = lower.Lower
	_ func(api.Tx, []api.Param) (int, api.Errno)      = lower.Weight
)

// Layer 19.
var (
	_ func(api.Code) (api.Code, api.Errno) = fold.Fold
)

// Layer 20.
var (
	_ func(api.Code) (api.Code, api.Errno) = reuse.Reuse
)

// Layer 21.
var (
	_ func(api.Code) (api.Code, api.Errno) = prune.Prune
)

// Layer 22.
var (
	_ func(api.Code) (api.Code, api.Errno) = fuse.Fuse
)

// Layer 23.
var (
	_ func(api.Code) (int, int, []int, api.Errno) = alloc.Pressure
	_ func(api.Code) (api.Code, api.Errno)        = alloc.Alloc
)

// Layer 24.
var (
	_ func(api.Code) (string, api.Errno)      = code.Encode
	_ func(string) (api.Code, api.Errno, int) = code.Decode
	_ func(string) uint64                     = code.Print
)

// Layer 25.
var (
	_ func(api.Code) (string, api.Errno)      = asm.Text
	_ func(string) (api.Code, api.Errno, int) = asm.Parse
)

// Layer 26.
var (
	_ func(api.Code) api.Errno             = verify.Check
	_ func(api.Code) (int, api.Errno)      = verify.Cost
	_ func(api.Code) (int, api.Errno)      = verify.Room
	_ func(api.Code, int) (int, api.Errno) = verify.Weigh
)

// Layer 27.
var (
	_ func(string) (*vm.Machine, api.Errno)                          = vm.New
	_ func(*vm.Machine, [][]api.F, [][]api.F) ([][]api.F, api.Errno) = (*vm.Machine).Step
	_ func(*vm.Machine) int                                          = (*vm.Machine).Spent
	_ func(*vm.Machine) []uint32                                     = (*vm.Machine).State
	_ func(*vm.Machine, []uint32) api.Errno                          = (*vm.Machine).Set
	_ func(*vm.Machine) []api.Param                                  = (*vm.Machine).Signature
	_ func(*vm.Machine) *vm.Machine                                  = (*vm.Machine).Clone
)

// Layer 28.
var (
	_ func(api.Code, int) (api.Code, api.Errno) = opt.Run
)

// Layer 29.
var (
	_ func(string, []api.Param, int) (string, api.Errno, int)            = driver.Compile
	_ func(string) (*driver.Session, api.Errno)                          = driver.Open
	_ func(*driver.Session, [][]api.F, [][]api.F) ([][]api.F, api.Errno) = (*driver.Session).Step
	_ func(*driver.Session) int                                          = (*driver.Session).Count
	_ func(*driver.Session) string                                       = (*driver.Session).Snapshot
	_ func(*driver.Session, string) api.Errno                            = (*driver.Session).Restore
)

// Layer 30.
var (
	_ func(string) (string, api.Errno, int) = house.Run
)
