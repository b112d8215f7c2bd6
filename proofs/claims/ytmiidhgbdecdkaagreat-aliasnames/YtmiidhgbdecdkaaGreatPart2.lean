import Derived.Test.YtmiidhgbdecdkaaGreatPart1
import Derived.Orders
import Derived.OrdersHeld
import Derived.Below
import Derived.KernelRfl
import Derived.Laws.AppendOwnNone
import Derived.MapKept
namespace Go.Proofs.YtmiidhgbdecdkaaGreat
set_option linter.unusedVariables false
set_option linter.unusedSimpArgs false
structure Rw where
 name : ByteArray
 args : List ByteArray
 vals : List Nd
def noneN : Nd := ⟨0, ⟨#[]⟩, 0, 0, ⟨#[]⟩, [], 0⟩
def numN (f : Int) : Nd := ⟨2, ⟨#[]⟩, f, 0, ⟨#[]⟩, [], 0⟩
def flagN (s : ByteArray) : Nd := ⟨4, s, 0, 0, ⟨#[]⟩, [], 0⟩
def callA (nm : ByteArray) (l : List Nd) : Nd := ⟨1, nm, 0, 0, ⟨#[]⟩, l, 0⟩
def madeN (a : Int) (nm : ByteArray) (l : List Nd) : Nd := ⟨1, nm, 0, 0, ⟨#[]⟩, l, a⟩
def row0 : Rw := ⟨⟨#[97, 100, 97, 98, 101, 108, 105, 101, 102]⟩, [⟨#[114, 97, 116, 101]⟩, ⟨#[98, 49]⟩, ⟨#[98, 50]⟩, ⟨#[101, 112, 115]⟩, ⟨#[101, 112, 115, 95, 114, 111, 111, 116]⟩], [noneN, numN 1063675494, numN 1065336439, numN 619091349, numN 619091349]⟩ -- adabelief
def row1 : Rw := ⟨⟨#[97, 100, 97, 100, 101, 108, 116, 97]⟩, [⟨#[114, 97, 116, 101]⟩, ⟨#[114, 104, 111]⟩, ⟨#[101, 112, 115]⟩], [noneN, numN 1063675494, numN 897988541]⟩ -- adadelta
def row2 : Rw := ⟨⟨#[97, 100, 97, 103, 114, 97, 100]⟩, [⟨#[114, 97, 116, 101]⟩, ⟨#[105, 110, 105, 116, 105, 97, 108]⟩, ⟨#[101, 112, 115]⟩], [noneN, numN 1036831949, numN 869711765]⟩ -- adagrad
def row3 : Rw := ⟨⟨#[97, 100, 97, 109]⟩, [⟨#[114, 97, 116, 101]⟩, ⟨#[98, 49]⟩, ⟨#[98, 50]⟩, ⟨#[101, 112, 115]⟩, ⟨#[101, 112, 115, 95, 114, 111, 111, 116]⟩], [noneN, numN 1063675494, numN 1065336439, numN 841731191, numN 0]⟩ -- adam
def row4 : Rw := ⟨⟨#[97, 100, 97, 109, 97, 120]⟩, [⟨#[114, 97, 116, 101]⟩, ⟨#[98, 49]⟩, ⟨#[98, 50]⟩, ⟨#[101, 112, 115]⟩], [noneN, numN 1063675494, numN 1065336439, numN 841731191]⟩ -- adamax
def row5 : Rw := ⟨⟨#[97, 100, 97, 109, 119]⟩, [⟨#[114, 97, 116, 101]⟩, ⟨#[98, 49]⟩, ⟨#[98, 50]⟩, ⟨#[101, 112, 115]⟩, ⟨#[101, 112, 115, 95, 114, 111, 111, 116]⟩, ⟨#[119, 101, 105, 103, 104, 116, 95, 100, 101, 99, 97, 121]⟩, ⟨#[109, 97, 115, 107]⟩], [noneN, numN 1063675494, numN 1065336439, numN 841731191, numN 0, numN 953267991, callA ⟨#[97, 108, 108]⟩ []]⟩ -- adamw
def row6 : Rw := ⟨⟨#[97, 103, 99]⟩, [⟨#[114, 97, 116, 101]⟩, ⟨#[99, 108, 105, 112, 112, 105, 110, 103]⟩, ⟨#[101, 112, 115]⟩, ⟨#[109, 111, 109, 101, 110, 116, 117, 109]⟩, ⟨#[110, 101, 115, 116, 101, 114, 111, 118]⟩], [noneN, numN 1036831949, numN 981668463, numN 0, flagN ⟨#[102, 97, 108, 115, 101]⟩]⟩ -- agc
def row7 : Rw := ⟨⟨#[97, 109, 115, 103, 114, 97, 100]⟩, [⟨#[114, 97, 116, 101]⟩, ⟨#[98, 49]⟩, ⟨#[98, 50]⟩, ⟨#[101, 112, 115]⟩, ⟨#[101, 112, 115, 95, 114, 111, 111, 116]⟩], [noneN, numN 1063675494, numN 1065336439, numN 841731191, numN 0]⟩ -- amsgrad
def row8 : Rw := ⟨⟨#[108, 97, 109, 98]⟩, [⟨#[114, 97, 116, 101]⟩, ⟨#[98, 49]⟩, ⟨#[98, 50]⟩, ⟨#[101, 112, 115]⟩, ⟨#[101, 112, 115, 95, 114, 111, 111, 116]⟩, ⟨#[119, 101, 105, 103, 104, 116, 95, 100, 101, 99, 97, 121]⟩, ⟨#[109, 97, 115, 107]⟩], [noneN, numN 1063675494, numN 1065336439, numN 897988541, numN 0, numN 0, callA ⟨#[97, 108, 108]⟩ []]⟩ -- lamb
def row9 : Rw := ⟨⟨#[108, 97, 114, 115]⟩, [⟨#[114, 97, 116, 101]⟩, ⟨#[119, 101, 105, 103, 104, 116, 95, 100, 101, 99, 97, 121]⟩, ⟨#[116, 114, 117, 115, 116, 95, 99, 111, 101, 102, 102, 105, 99, 105, 101, 110, 116]⟩, ⟨#[101, 112, 115]⟩, ⟨#[109, 111, 109, 101, 110, 116, 117, 109]⟩, ⟨#[110, 101, 115, 116, 101, 114, 111, 118]⟩], [noneN, numN 0, numN 981668463, numN 0, numN 1063675494, flagN ⟨#[102, 97, 108, 115, 101]⟩]⟩ -- lars
def row10 : Rw := ⟨⟨#[108, 105, 111, 110]⟩, [⟨#[114, 97, 116, 101]⟩, ⟨#[98, 49]⟩, ⟨#[98, 50]⟩, ⟨#[119, 101, 105, 103, 104, 116, 95, 100, 101, 99, 97, 121]⟩, ⟨#[109, 97, 115, 107]⟩], [noneN, numN 1063675494, numN 1065185444, numN 981668463, callA ⟨#[97, 108, 108]⟩ []]⟩ -- lion
def row11 : Rw := ⟨⟨#[110, 111, 118, 111, 103, 114, 97, 100]⟩, [⟨#[114, 97, 116, 101]⟩, ⟨#[98, 49]⟩, ⟨#[98, 50]⟩, ⟨#[101, 112, 115]⟩, ⟨#[101, 112, 115, 95, 114, 111, 111, 116]⟩, ⟨#[119, 101, 105, 103, 104, 116, 95, 100, 101, 99, 97, 121]⟩], [noneN, numN 1063675494, numN 1048576000, numN 897988541, numN 0, numN 0]⟩ -- novograd
def row12 : Rw := ⟨⟨#[111, 112, 116, 105, 109, 105, 115, 116, 105, 99]⟩, [⟨#[114, 97, 116, 101]⟩, ⟨#[97, 108, 112, 104, 97]⟩, ⟨#[98, 101, 116, 97]⟩], [noneN, numN 1065353216, numN 1065353216]⟩ -- optimistic
def row13 : Rw := ⟨⟨#[114, 109, 115, 112, 114, 111, 112]⟩, [⟨#[114, 97, 116, 101]⟩, ⟨#[100, 101, 99, 97, 121]⟩, ⟨#[101, 112, 115]⟩, ⟨#[105, 110, 105, 116, 105, 97, 108]⟩, ⟨#[109, 111, 109, 101, 110, 116, 117, 109]⟩], [noneN, numN 1063675494, numN 841731191, numN 0, numN 0]⟩ -- rmsprop
def row14 : Rw := ⟨⟨#[115, 99, 97, 108, 101, 95, 98, 121, 95, 108, 101, 97, 114, 110, 105, 110, 103, 95, 114, 97, 116, 101]⟩, [⟨#[114, 97, 116, 101]⟩], [noneN]⟩ -- scale_by_learning_rate
def row15 : Rw := ⟨⟨#[115, 103, 100]⟩, [⟨#[114, 97, 116, 101]⟩, ⟨#[109, 111, 109, 101, 110, 116, 117, 109]⟩, ⟨#[110, 101, 115, 116, 101, 114, 111, 118]⟩], [noneN, numN 0, flagN ⟨#[102, 97, 108, 115, 101]⟩]⟩ -- sgd
def row16 : Rw := ⟨⟨#[121, 111, 103, 105]⟩, [⟨#[114, 97, 116, 101]⟩, ⟨#[98, 49]⟩, ⟨#[98, 50]⟩, ⟨#[101, 112, 115]⟩, ⟨#[105, 110, 105, 116, 105, 97, 108]⟩], [noneN, numN 1063675494, numN 1065336439, numN 981668463, numN 897988541]⟩ -- yogi
def rowsA : List Rw := [row0, row1, row2, row3, row4, row5, row6, row7, row8, row9, row10, row11, row12, row13, row14, row15, row16]
def sameB (a b : ByteArray) : Bool := a.toList == b.toList
def findA (t : Nd) : Option Rw := if t.kind == 1 then rowsA.find? (fun r => sameB r.name t.name) else none
def placeI : List ByteArray → ByteArray → Option Nat
 | [], _ => none
 | x :: l, key => if sameB x key then some 0 else (placeI l key).map (· + 1)
def givenL (r : Rw) : List Nd → Nat → Bool → List Nat → Except (Int × Int) (List Nat)
 | [], _, _, taken => .ok taken
 | ⟨_, _, _, _, key, _, a⟩ :: l, next, keyed, taken =>
  if key.size != 0 then
   match placeI r.args key with
   | none => .error (132, a)
   | some k => if taken.contains k then .error (132, a) else givenL r l next true (taken ++ [k])
  else if keyed then .error (132, a)
  else if r.args.length ≤ next then .error (131, a)
  else givenL r l (next + 1) false (taken ++ [next])
def givenP (r : Rw) (t : Nd) : Except (Int × Int) (List Nat) :=
 match givenL r t.args 0 false [] with
 | .error e => .error e
 | .ok l => if l.contains 0 then .ok l else .error (131, t.at_)
def errA (t : Nd) : Int × Int :=
 match findA t with
 | none => (0, 0)
 | some r => match givenP r t with | .error e => e | .ok _ => (0, 0)
def faultAL : List Nd → Int × Int
 | [] => (0, 0)
 | ⟨k, n, x, i, y, l, a⟩ :: r =>
  if (errA ⟨k, n, x, i, y, l, a⟩).1 ≠ 0 then errA ⟨k, n, x, i, y, l, a⟩
  else if (faultAL l).1 ≠ 0 then faultAL l else faultAL r
def faultA (t : Nd) : Int × Int := if (errA t).1 ≠ 0 then errA t else faultAL t.args
theorem faultAL_nil : faultAL [] = (0, 0) := by simp [faultAL]
theorem faultAL_cons (t : Nd) (r : List Nd) : faultAL (t :: r) = if (faultA t).1 ≠ 0 then faultA t else faultAL r := by
 cases t with
 | mk k n x i y l a =>
  simp only [faultAL, faultA]
  by_cases h : (errA ⟨k, n, x, i, y, l, a⟩).1 ≠ 0
  ·simp [h]
  ·simp [h]
def placeL (a : Int) : List Nd → List Nd
 | [] => []
 | ⟨k, n, x, i, y, l, _⟩ :: r => ⟨k, n, x, i, y, placeL a l, a⟩ :: placeL a r
def placeN (t : Nd) (a : Int) : Nd := ⟨t.kind, t.name, t.num, t.int_, t.key, placeL a t.args, a⟩
theorem placeL_nil (a : Int) : placeL a [] = [] := by simp [placeL]
theorem placeL_cons (a : Int) (t : Nd) (r : List Nd) : placeL a (t :: r) = placeN t a :: placeL a r := by cases t; simp [placeL, placeN]
theorem placeL_map (a : Int) : ∀ l : List Nd, placeL a l = l.map (fun t => placeN t a)
 | [] => placeL_nil a
 | t :: r => by rw [placeL_cons, placeL_map a r]; rfl
def keyN (t : Nd) (k : ByteArray) : Nd := ⟨t.kind, t.name, t.num, t.int_, k, t.args, t.at_⟩
def argsN (t : Nd) (l : List Nd) : Nd := ⟨t.kind, t.name, t.num, t.int_, t.key, l, t.at_⟩
def rateA (a : Int) (r : Nd) : Nd :=
 if r.kind == 2 then madeN a ⟨#[115, 99, 97, 108, 101]⟩ [⟨2, ⟨#[]⟩, fneg r.num, 0, ⟨#[]⟩, [], r.at_⟩]
 else if r.kind == 3 then madeN a ⟨#[115, 99, 97, 108, 101]⟩ [⟨2, ⟨#[]⟩, fneg (ffrom r.int_), 0, ⟨#[]⟩, [], r.at_⟩]
 else madeN a ⟨#[99, 104, 97, 105, 110]⟩ [madeN a ⟨#[115, 99, 97, 108, 101, 95, 98, 121, 95, 115, 99, 104, 101, 100, 117, 108, 101]⟩ [r], madeN a ⟨#[115, 99, 97, 108, 101]⟩ [placeN (numN 3212836864) a]]
def decA (a : Int) (mask weight : Nd) : Nd := madeN a ⟨#[109, 97, 115, 107, 101, 100]⟩ [mask, madeN a ⟨#[97, 100, 100, 95, 100, 101, 99, 97, 121, 101, 100, 95, 119, 101, 105, 103, 104, 116, 115]⟩ [weight]]
def ix (l : List Nd) (i : Nat) : Nd := l.getD i noneN
def becA (nm : ByteArray) (a : Int) (l : List Nd) : Nd :=
 if sameB nm ⟨#[115, 99, 97, 108, 101, 95, 98, 121, 95, 108, 101, 97, 114, 110, 105, 110, 103, 95, 114, 97, 116, 101]⟩ then rateA a (ix l 0)
 else if sameB nm ⟨#[115, 103, 100]⟩ then madeN a ⟨#[99, 104, 97, 105, 110]⟩ [madeN a ⟨#[116, 114, 97, 99, 101]⟩ [ix l 1, ix l 2], rateA a (ix l 0)]
 else if sameB nm ⟨#[97, 100, 97, 109]⟩ then madeN a ⟨#[99, 104, 97, 105, 110]⟩ [madeN a ⟨#[115, 99, 97, 108, 101, 95, 98, 121, 95, 97, 100, 97, 109]⟩ (l.drop 1), rateA a (ix l 0)]
 else if sameB nm ⟨#[97, 109, 115, 103, 114, 97, 100]⟩ then madeN a ⟨#[99, 104, 97, 105, 110]⟩ [madeN a ⟨#[115, 99, 97, 108, 101, 95, 98, 121, 95, 97, 109, 115, 103, 114, 97, 100]⟩ (l.drop 1), rateA a (ix l 0)]
 else if sameB nm ⟨#[97, 100, 97, 98, 101, 108, 105, 101, 102]⟩ then madeN a ⟨#[99, 104, 97, 105, 110]⟩ [madeN a ⟨#[115, 99, 97, 108, 101, 95, 98, 121, 95, 98, 101, 108, 105, 101, 102]⟩ (l.drop 1), rateA a (ix l 0)]
 else if sameB nm ⟨#[121, 111, 103, 105]⟩ then madeN a ⟨#[99, 104, 97, 105, 110]⟩ [madeN a ⟨#[115, 99, 97, 108, 101, 95, 98, 121, 95, 121, 111, 103, 105]⟩ (l.drop 1), rateA a (ix l 0)]
 else if sameB nm ⟨#[97, 100, 97, 100, 101, 108, 116, 97]⟩ then madeN a ⟨#[99, 104, 97, 105, 110]⟩ [madeN a ⟨#[115, 99, 97, 108, 101, 95, 98, 121, 95, 97, 100, 97, 100, 101, 108, 116, 97]⟩ (l.drop 1), rateA a (ix l 0)]
 else if sameB nm ⟨#[97, 100, 97, 109, 97, 120]⟩ then madeN a ⟨#[99, 104, 97, 105, 110]⟩ [madeN a ⟨#[115, 99, 97, 108, 101, 95, 98, 121, 95, 97, 100, 97, 109, 97, 120]⟩ (l.drop 1), rateA a (ix l 0)]
 else if sameB nm ⟨#[110, 111, 118, 111, 103, 114, 97, 100]⟩ then madeN a ⟨#[99, 104, 97, 105, 110]⟩ [madeN a ⟨#[115, 99, 97, 108, 101, 95, 98, 121, 95, 110, 111, 118, 111, 103, 114, 97, 100]⟩ (l.drop 1), rateA a (ix l 0)]
 else if sameB nm ⟨#[111, 112, 116, 105, 109, 105, 115, 116, 105, 99]⟩ then madeN a ⟨#[99, 104, 97, 105, 110]⟩ [madeN a ⟨#[115, 99, 97, 108, 101, 95, 98, 121, 95, 111, 112, 116, 105, 109, 105, 115, 116, 105, 99, 95, 103, 114, 97, 100, 105, 101, 110, 116]⟩ (l.drop 1), rateA a (ix l 0)]
 else if sameB nm ⟨#[97, 103, 99]⟩ then madeN a ⟨#[99, 104, 97, 105, 110]⟩ [madeN a ⟨#[97, 100, 97, 112, 116, 105, 118, 101, 95, 103, 114, 97, 100, 95, 99, 108, 105, 112]⟩ ((l.drop 1).take 2), madeN a ⟨#[116, 114, 97, 99, 101]⟩ (l.drop 3), rateA a (ix l 0)]
 else if sameB nm ⟨#[97, 100, 97, 103, 114, 97, 100]⟩ then madeN a ⟨#[99, 104, 97, 105, 110]⟩ [madeN a ⟨#[115, 99, 97, 108, 101, 95, 98, 121, 95, 114, 115, 115]⟩ (l.drop 1), rateA a (ix l 0)]
 else if sameB nm ⟨#[97, 100, 97, 109, 119]⟩ then madeN a ⟨#[99, 104, 97, 105, 110]⟩ [madeN a ⟨#[115, 99, 97, 108, 101, 95, 98, 121, 95, 97, 100, 97, 109]⟩ ((l.drop 1).take 4), decA a (ix l 6) (ix l 5), rateA a (ix l 0)]
 else if sameB nm ⟨#[114, 109, 115, 112, 114, 111, 112]⟩ then madeN a ⟨#[99, 104, 97, 105, 110]⟩ [madeN a ⟨#[115, 99, 97, 108, 101, 95, 98, 121, 95, 114, 109, 115]⟩ ((l.drop 1).take 3), rateA a (ix l 0), madeN a ⟨#[116, 114, 97, 99, 101]⟩ [ix l 4, placeN (flagN ⟨#[102, 97, 108, 115, 101]⟩) a]]
 else if sameB nm ⟨#[108, 105, 111, 110]⟩ then madeN a ⟨#[99, 104, 97, 105, 110]⟩ [madeN a ⟨#[115, 99, 97, 108, 101, 95, 98, 121, 95, 108, 105, 111, 110]⟩ ((l.drop 1).take 2), decA a (ix l 4) (ix l 3), rateA a (ix l 0)]
 else if sameB nm ⟨#[108, 97, 109, 98]⟩ then madeN a ⟨#[99, 104, 97, 105, 110]⟩ [madeN a ⟨#[115, 99, 97, 108, 101, 95, 98, 121, 95, 97, 100, 97, 109]⟩ ((l.drop 1).take 4), decA a (ix l 6) (ix l 5), placeN (callA ⟨#[115, 99, 97, 108, 101, 95, 98, 121, 95, 116, 114, 117, 115, 116, 95, 114, 97, 116, 105, 111]⟩ [numN 0, numN 1065353216, numN 0]) a, rateA a (ix l 0)]
 else madeN a ⟨#[99, 104, 97, 105, 110]⟩ [madeN a ⟨#[97, 100, 100, 95, 100, 101, 99, 97, 121, 101, 100, 95, 119, 101, 105, 103, 104, 116, 115]⟩ [ix l 1], madeN a ⟨#[115, 99, 97, 108, 101, 95, 98, 121, 95, 116, 114, 117, 115, 116, 95, 114, 97, 116, 105, 111]⟩ [placeN (numN 0) a, ix l 2, ix l 3], rateA a (ix l 0), madeN a ⟨#[116, 114, 97, 99, 101]⟩ [ix l 4, ix l 5]]
def fillA : List Nat → List Nd → List Nd → List Nd
 | k :: w, x :: l, a => fillA w l (a.set k (keyN x ⟨#[]⟩))
 | _, _, a => a
def oneA (t : Nd) (l : List Nd) : Nd :=
 match findA t with
 | none => argsN t l
 | some r =>
  let which := match givenP r t with | .ok w => w | .error _ => []
  keyN (becA t.name t.at_ (fillA which l (r.vals.map fun v => placeN v t.at_))) t.key
def wholeL : List Nd → List Nd
 | [] => []
 | ⟨k, n, x, i, y, l, a⟩ :: r => oneA ⟨k, n, x, i, y, l, a⟩ (wholeL l) :: wholeL r
def wholeN (t : Nd) : Nd := oneA t (wholeL t.args)
theorem wholeL_nil : wholeL [] = [] := by simp [wholeL]
theorem wholeL_cons (t : Nd) (r : List Nd) : wholeL (t :: r) = wholeN t :: wholeL r := by cases t; simp [wholeL, wholeN]
theorem wholeL_map : ∀ l : List Nd, wholeL l = l.map wholeN
 | [] => wholeL_nil
 | t :: r => by rw [wholeL_cons, wholeL_map r]; rfl
def letsF : Nat → Nd → List (ByteArray × Nd) × Nd
 | 0, t => ([], t)
 | n + 1, t => if t.kind == 6 then (((t.name, ix t.args 0) :: (letsF n (ix t.args 1)).1), (letsF n (ix t.args 1)).2) else ([], t)
def letsA (t : Nd) : List (ByteArray × Nd) × Nd := letsF (dep t) t
abbrev Env := List (ByteArray × Nd)
def lookE (e : Env) (nm : ByteArray) : Option Nd := (e.find? fun p => sameB p.1 nm).map (·.2)
def wrOne (e : Env) (t : Nd) (l : List Nd) : Nd :=
 if t.kind == 4 then (match lookE e t.name with | some v => keyN (placeN v t.at_) t.key | none => argsN t l) else argsN t l
def wrL (e : Env) : List Nd → List Nd
 | [] => []
 | ⟨k, n, x, i, y, l, a⟩ :: r => wrOne e ⟨k, n, x, i, y, l, a⟩ (wrL e l) :: wrL e r
def wrN (e : Env) (t : Nd) : Nd := wrOne e t (wrL e t.args)
theorem wrL_nil (e : Env) : wrL e [] = [] := by simp [wrL]
theorem wrL_cons (e : Env) (t : Nd) (r : List Nd) : wrL e (t :: r) = wrN e t :: wrL e r := by cases t; simp [wrL, wrN]
theorem wrL_map (e : Env) : ∀ l : List Nd, wrL e l = l.map (wrN e)
 | [] => wrL_nil e
 | t :: r => by rw [wrL_cons, wrL_map e r]; rfl
def envA : List (ByteArray × Nd) → Env
 | l => l.foldl (fun e p => (p.1, wrN e p.2) :: e) []
theorem envA_snoc (l : List (ByteArray × Nd)) (p : ByteArray × Nd) : envA (l ++ [p]) = (p.1, wrN (envA l) p.2) :: envA l := by simp [envA]
def writtenA (t : Nd) : Nd := wrN (envA (letsA t).1) (letsA t).2
structure ExpR where
 tree : Nd
 err : Int
 place : Int
end Go.Proofs.YtmiidhgbdecdkaaGreat
namespace Go.Proofs.YtmiidhgbdecdkaaGreat
open Go.RowKit
set_option linter.unusedVariables false
def eachOk (ops : Array Oper) (n : Nat) (slots : List Nat) : Bool :=
 let ds := ops.toList.map (·.dst)
 ops.toList.all (fun o => o.guard.isNone && match o.dst with | some t => decide (t < n) && !slots.contains t | none => false) && decide ds.Nodup
theorem nodup_idx : ∀ {l : List (Option Tmp)}, l.Nodup → ∀ {i j : Nat} {t : Option Tmp}, l[i]? = some t → l[j]? = some t → i = j
 | [], _, i, j, t, h, _ => by simp at h
 | x :: l, hn, i, j, t, hi, hj => by
  have hn' := List.nodup_cons.1 hn
  cases i with
  | zero =>
   cases j with
   | zero => rfl
   | succ j =>
    simp at hi hj
    subst hi
    exact absurd (List.mem_of_getElem? hj) hn'.1
  | succ i =>
   cases j with
   | zero =>
    simp at hi hj
    subst hj
    exact absurd (List.mem_of_getElem? hi) hn'.1
   | succ j =>
    simp at hi hj
    rw [nodup_idx hn'.2 hi hj]
theorem each_at {ops : Array Oper} {n : Nat} {slots : List Nat} (h : eachOk ops n slots = true) {i : Nat} {o : Oper} (ho : ops[i]? = some o) : o.guard = none ∧ ∃ t, o.dst = some t ∧ t < n ∧ t ∉ slots := by
 unfold eachOk at h
 rw [Bool.and_eq_true] at h
 have hm : o ∈ ops.toList := by
  rw [← Array.getElem?_toList] at ho
  exact List.mem_of_getElem? ho
 have := List.all_eq_true.1 h.1 o hm
 rw [Bool.and_eq_true] at this
 refine ⟨by simpa using this.1, ?_⟩
 cases hd : o.dst with
 | none => rw [hd] at this; simp at this
 | some t =>
  rw [hd] at this
  have h2 := this.2
  simp only [Bool.and_eq_true, decide_eq_true_eq, Bool.not_eq_true', List.contains_eq_mem, decide_eq_false_iff_not] at h2
  exact ⟨t, rfl, h2.1, h2.2⟩
theorem each_ne {ops : Array Oper} {n : Nat} {slots : List Nat} (h : eachOk ops n slots = true) {i j : Nat} {oi oj : Oper} {t : Tmp} (hi : ops[i]? = some oi) (hj : ops[j]? = some oj) (di : oi.dst = some t) (dj : oj.dst = some t) : i = j := by
 unfold eachOk at h
 rw [Bool.and_eq_true] at h
 have hn : (ops.toList.map (·.dst)).Nodup := of_decide_eq_true h.2
 rw [← Array.getElem?_toList] at hi hj
 exact nodup_idx hn (i := i) (j := j) (t := some t) (by rw [List.getElem?_map, hi]; simp [di]) (by rw [List.getElem?_map, hj]; simp [dj])
def Finds (ops : Array Oper) (Post : Nat → Value → World → Prop) (base : List (Nat × Value)) (o : Oper) (a : Act) (w : World) : Prop :=
 (∀ p ∈ base, a.tmps[p.1]? = some p.2) ∧ ∀ e ∈ o.after, Region.binds .any e = true → ∀ od t, ops[e.on]? = some od → od.dst = some t → ∃ v, a.tmps[t]? = some v ∧ Post e.on v w
structure Each (ops : Array Oper) (Post : Nat → Value → World → Prop) (a0 : Act) (w0 : World) (listed : Array Bool) (a : Act) (w : World) : Prop where
 defers : a.defers = a0.defers
 size : a.tmps.size = a0.tmps.size
 ls : listed.size = ops.size
 below : Below w0.heap.size w0 w
 rest : ∀ (s : Nat), (∀ (i : Nat) (o : Oper), ops[i]? = some o → o.dst ≠ some s) → a.tmps[s]? = a0.tmps[s]?
 posts : ∀ (i : Nat) (o : Oper) (t : Tmp), ops[i]? = some o → o.dst = some t → listed.getD i false = true → ∃ v, a.tmps[t]? = some v ∧ Post i v w
theorem ready_spec {ops : Array Oper} {listed : Array Bool} {i : Nat} (h : i ∈ Region.ready .any ops listed) : ∃ o, ops[i]? = some o ∧ listed.getD i true = false ∧ ∀ e ∈ o.after, Region.binds .any e = true → listed.getD e.on false = true := by
 unfold Region.ready at h
 rw [List.mem_filter, Bool.and_eq_true] at h
 obtain ⟨hr, h1, h2⟩ := h
 cases ho : ops[i]? with
 | none => rw [ho] at h2; simp at h2
 | some o =>
  rw [ho] at h2
  refine ⟨o, rfl, by simpa using h1, fun e he hb => ?_⟩
  have h3 : (o.after.all fun e => !Region.binds .any e || listed.getD e.on false) = true := by simpa using h2
  rw [Array.all_eq_true] at h3
  obtain ⟨k, hk, rfl⟩ := Array.mem_iff_getElem.1 he
  have h4 := h3 k hk
  rw [hb] at h4
  simpa using h4
def earlyB (ops : Array Oper) : Bool := (List.range ops.size).all fun i => ((ops[i]?).map (·.after.all fun e => !Region.binds .any e || decide (e.on < i))).getD true
theorem all_of_none {ops : Array Oper} (hE : earlyB ops = true) (listed : Array Bool) (hl : listed.size = ops.size) (hr : Region.ready .any ops listed = []) : ∀ i, i < ops.size → listed.getD i false = true := by
 intro i
 induction i using Nat.strongRecOn with
 | ind i ih =>
  intro hi
  cases hd : listed.getD i false with
  | true => rfl
  | false =>
   exfalso
   have hmem : i ∈ Region.ready .any ops listed := by
    unfold Region.ready
    rw [List.mem_filter, Bool.and_eq_true]
    have ho : ops[i]? = some ops[i] := Array.getElem?_eq_getElem hi
    refine ⟨List.mem_range.2 hi, ?_, ?_⟩
    ·have hlt : i < listed.size := by omega
     rw [Array.getD_eq_getD_getElem?, Array.getElem?_eq_getElem hlt] at hd ⊢
     simpa using hd
    ·have h1 := List.all_eq_true.1 hE i (List.mem_range.2 hi)
     rw [ho] at h1 ⊢
     simp only [Option.map_some, Option.getD_some] at h1 ⊢
     rw [Array.all_eq_true] at h1 ⊢
     intro k hk
     have h2 := h1 k hk
     cases hb : Region.binds .any ops[i].after[k] with
     | false => simp
     | true =>
      rw [hb] at h2
      have hlt : ops[i].after[k].on < i := by simpa using h2
      simp only [Bool.not_true, Bool.false_or]
      exact ih _ hlt (by omega)
   rw [hr] at hmem
   simp at hmem
variable {P : Program} {ops : Array Oper} {Q : Exit → Act → World → Prop} {Post : Nat → Value → World → Prop} {base : List (Nat × Value)} {a0 : Act} {w0 : World}
theorem wpAny_each (hE : earlyB ops = true) (hok : eachOk ops a0.tmps.size (base.map (·.1)) = true) (hst : ∀ i v w w', Below w.heap.size w w' → Post i v w → Post i v w') (hb : ∀ p ∈ base, a0.tmps[p.1]? = some p.2)
  (hstep : ∀ (i : Nat) (o : Oper), ops[i]? = some o → ∀ (a : Act) (w : World), a.defers = a0.defers → Below w0.heap.size w0 w → Finds ops Post base o a w → o.wp P a w (fun a' w' => ∃ v, a' = a.put o.dst v ∧ Below w.heap.size w w' ∧ Post i v w') Q)
  (hdone : ∀ (a : Act) (w : World), a.defers = a0.defers → a.tmps.size = a0.tmps.size → Below w0.heap.size w0 w → (∀ (s : Nat), (∀ (i : Nat) (o : Oper), ops[i]? = some o → o.dst ≠ some s) → a.tmps[s]? = a0.tmps[s]?) → (∀ (i : Nat) (o : Oper) (t : Tmp), ops[i]? = some o → o.dst = some t → ∃ v, a.tmps[t]? = some v ∧ Post i v w) → Q .normal a w) :
  ∀ (fuel : Nat) (listed : Array Bool) (a : Act) (w : World), Each ops Post a0 w0 listed a w → (listed.toList.count false ≤ fuel) → wpAny P .any ops Q fuel listed a w := by
 intro fuel
 induction fuel with
 | zero =>
  intro listed a w he hc
  have hz : listed.toList.count false = 0 := by omega
  have hno : false ∉ listed.toList := List.count_eq_zero.1 hz
  have hrd : Region.ready .any ops listed = [] := by
   rw [List.eq_nil_iff_forall_not_mem]
   intro i hi
   obtain ⟨o, ho, hl, _⟩ := ready_spec hi
   have hlt : i < listed.size := by rw [he.ls]; exact (Array.getElem?_eq_some_iff.1 ho).1
   rw [Array.getD_eq_getD_getElem?, Array.getElem?_eq_getElem hlt] at hl
   exact hno (by rw [← show listed[i] = false by simpa using hl]; exact Array.getElem_mem_toList _)
  refine ⟨hrd, hdone a w he.defers he.size he.below he.rest (fun i o t ho hd => he.posts i o t ho hd (all_of_none hE listed he.ls hrd i (Array.getElem?_eq_some_iff.1 ho).1))⟩
 | succ fuel ih =>
  intro listed a w he hc
  refine ⟨fun hrd => hdone a w he.defers he.size he.below he.rest (fun i o t ho hd => he.posts i o t ho hd (all_of_none hE listed he.ls hrd i (Array.getElem?_eq_some_iff.1 ho).1)), fun i hi => ?_⟩
  obtain ⟨o, ho, hl, hdeps⟩ := ready_spec hi
  obtain ⟨hg, t, hdt, htn, hts⟩ := each_at hok ho
  unfold wpOp
  rw [ho]
  simp only
  rw [if_pos (by unfold Region.wanted; rw [hg])]
  refine Or.inl ?_
  have hfind : Finds ops Post base o a w := by
   refine ⟨fun p hp => ?_, fun e hee hbe od td hod hdd => he.posts e.on od td hod hdd (hdeps e hee hbe)⟩
   rw [he.rest p.1 (fun j oj hoj hdj => ?_)]
   ·exact hb p hp
   ·obtain ⟨_, t', hdt', _, hts'⟩ := each_at hok hoj
    rw [hdj] at hdt'
    obtain rfl := Option.some.inj hdt'
    exact hts' (List.mem_map_of_mem hp)
  refine Oper.wp_mono ?_ (hstep i o ho a w he.defers he.below hfind)
  rintro a' w' ⟨v, rfl, hbw, hp⟩
  have hput : a.put o.dst v = { a with tmps := a.tmps.setIfInBounds t v } := by rw [hdt]; rfl
  have hlt : i < listed.size := by rw [he.ls]; exact (Array.getElem?_eq_some_iff.1 ho).1
  have hta : t < a.tmps.size := by rw [he.size]; exact htn
  refine ih _ _ _ ?_ ?_
  ·rw [hput]
   refine ⟨he.defers, by simp [he.size], by simp [he.ls], he.below.trans (hbw.mono he.below.size), fun s hs => ?_, fun j oj tj hoj hdj hlj => ?_⟩
   ·have hne : t ≠ s := fun e => hs i o ho (by rw [hdt, e])
    rw [Array.getElem?_setIfInBounds_ne hne]
    exact he.rest s hs
   ·by_cases hij : i = j
    ·subst hij
     rw [ho] at hoj
     obtain rfl := Option.some.inj hoj
     rw [hdt] at hdj
     obtain rfl := Option.some.inj hdj
     exact ⟨v, by simp [hta], hp⟩
    ·have hne : t ≠ tj := fun e => hij (each_ne hok ho hoj hdt (by rw [hdj, e]))
     obtain ⟨u, hu, hpu⟩ := he.posts j oj tj hoj hdj (by
      rw [Array.getD_eq_getD_getElem?, Array.getElem?_setIfInBounds_ne hij] at hlj
      rw [Array.getD_eq_getD_getElem?]; exact hlj)
     exact ⟨u, by rw [Array.getElem?_setIfInBounds_ne hne]; exact hu, hst j u w w' hbw hpu⟩
  ·have hfa : listed[i] = false := by
    rw [Array.getD_eq_getD_getElem?, Array.getElem?_eq_getElem hlt] at hl
    simpa using hl
   have : (listed.setIfInBounds i true).toList.count false = listed.toList.count false - 1 := by
    rw [Array.toList_setIfInBounds, List.count_set (by simpa using hlt)]
    simp [hfa]
   rw [this]
   omega
theorem wp_region_each {id : Nat} (hm : P.follows .mixedOrders = true) (base : List (Nat × Value)) (Post : Nat → Value → World → Prop) (hE : earlyB ops = true) (hok : eachOk ops a0.tmps.size (base.map (·.1)) = true) (hst : ∀ i v w w', Below w.heap.size w w' → Post i v w → Post i v w') (hb : ∀ p ∈ base, a0.tmps[p.1]? = some p.2)
  (hstep : ∀ (i : Nat) (o : Oper), ops[i]? = some o → ∀ (a : Act) (w : World), a.defers = a0.defers → Below w0.heap.size w0 w → Finds ops Post base o a w → o.wp P a w (fun a' w' => ∃ v, a' = a.put o.dst v ∧ Below w.heap.size w w' ∧ Post i v w') Q)
  (hdone : ∀ (a : Act) (w : World), a.defers = a0.defers → a.tmps.size = a0.tmps.size → Below w0.heap.size w0 w → (∀ (s : Nat), (∀ (i : Nat) (o : Oper), ops[i]? = some o → o.dst ≠ some s) → a.tmps[s]? = a0.tmps[s]?) → (∀ (i : Nat) (o : Oper) (t : Tmp), ops[i]? = some o → o.dst = some t → ∃ v, a.tmps[t]? = some v ∧ Post i v w) → Q .normal a w) :
  (Code.region id ops true).wp P Q a0 w0 := by
 refine wp_region_any hm ?_
 refine wpAny_each hE hok hst hb (w0 := w0) hstep hdone _ _ _ _ ⟨rfl, rfl, by simp, (Below.refl _ _).drew, fun s _ => rfl, fun i o t ho hd hl => ?_⟩ ?_
 ·exfalso
  rw [Array.getD_eq_getD_getElem?] at hl
  by_cases h : i < ops.size
  ·rw [Array.getElem?_eq_getElem (by simpa using h)] at hl; simp at hl
  ·rw [Array.getElem?_eq_none (by simpa using h)] at hl; simp at hl
 ·simp
end Go.Proofs.YtmiidhgbdecdkaaGreat
namespace Go.Proofs.YtmiidhgbdecdkaaGreat
open Go.RowKit
set_option linter.unusedVariables false
set_option linter.unusedSimpArgs false
theorem box_heapA (w : World) (x : Obj) : (w.alloc x).heap[w.heap.size]? = some x := (MapKept.heap_alloc w _).1
theorem at_cellA {w : World} {C : Nat} {a : Array Value} {t : TypeId} (h : w.heap[C]? = some (.cells a t)) (i : Nat) {u : Value} (e : a[i]? = some u) : w.cell? ⟨C, i, none⟩ = some u ∧ w.frozen? ⟨C, i, none⟩ = false := by
 constructor
 ·simp [World.cell?, h, e]
 ·simp [World.frozen?, h]
theorem sevenA {v : World} {R : Nat} {a0 a1 a2 a3 a4 a5 a6 : Value} {t : TypeId} (h : v.heap[R]? = some (.cells #[a0, a1, a2, a3, a4, a5, a6] t)) :
  (v.cell? ⟨R, 0, none⟩ = some a0 ∧ v.cell? ⟨R, 1, none⟩ = some a1 ∧ v.cell? ⟨R, 2, none⟩ = some a2 ∧ v.cell? ⟨R, 3, none⟩ = some a3 ∧ v.cell? ⟨R, 4, none⟩ = some a4 ∧ v.cell? ⟨R, 5, none⟩ = some a5 ∧ v.cell? ⟨R, 6, none⟩ = some a6)
  ∧ (v.frozen? ⟨R, 0, none⟩ = false ∧ v.frozen? ⟨R, 1, none⟩ = false ∧ v.frozen? ⟨R, 2, none⟩ = false ∧ v.frozen? ⟨R, 3, none⟩ = false ∧ v.frozen? ⟨R, 4, none⟩ = false ∧ v.frozen? ⟨R, 5, none⟩ = false ∧ v.frozen? ⟨R, 6, none⟩ = false) :=
 ⟨⟨(at_cellA h 0 rfl).1, (at_cellA h 1 rfl).1, (at_cellA h 2 rfl).1, (at_cellA h 3 rfl).1, (at_cellA h 4 rfl).1, (at_cellA h 5 rfl).1, (at_cellA h 6 rfl).1⟩,
  (at_cellA h 0 rfl).2, (at_cellA h 1 rfl).2, (at_cellA h 2 rfl).2, (at_cellA h 3 rfl).2, (at_cellA h 4 rfl).2, (at_cellA h 5 rfl).2, (at_cellA h 6 rfl).2⟩
theorem below_seven {w W : World} (h : Below w.heap.size w W) (a b c d e f g : Value) : Below w.heap.size w (((((((W.setCell ⟨w.heap.size, 0, none⟩ a).setCell ⟨w.heap.size, 1, none⟩ b).setCell ⟨w.heap.size, 2, none⟩ c).setCell ⟨w.heap.size, 3, none⟩ d).setCell ⟨w.heap.size, 4, none⟩ e).setCell ⟨w.heap.size, 5, none⟩ f).setCell ⟨w.heap.size, 6, none⟩ g) :=
 ((((((h.setCell (p := ⟨w.heap.size, 0, none⟩) (Nat.le_refl _) _).setCell (p := ⟨w.heap.size, 1, none⟩) (Nat.le_refl _) _).setCell (p := ⟨w.heap.size, 2, none⟩) (Nat.le_refl _) _).setCell (p := ⟨w.heap.size, 3, none⟩) (Nat.le_refl _) _).setCell (p := ⟨w.heap.size, 4, none⟩) (Nat.le_refl _) _).setCell (p := ⟨w.heap.size, 5, none⟩) (Nat.le_refl _) _).setCell (p := ⟨w.heap.size, 6, none⟩) (Nat.le_refl _) _
theorem put_oneA {v : World} {R : Nat} {cs : Array Value} {t : TypeId} (h : v.heap[R]? = some (.cells cs t)) (i : Nat) (b : Value) : (v.setCell ⟨R, i, none⟩ b).heap[R]? = some (.cells (cs.setIfInBounds i b) t) := by
 simp [World.setCell, Array.getElem?_modify, h]
theorem put_sevenA {v : World} {R : Nat} {a0 a1 a2 a3 a4 a5 a6 : Value} {t : TypeId} (h : v.heap[R]? = some (.cells #[a0, a1, a2, a3, a4, a5, a6] t)) (b0 b1 b2 b3 b4 b5 b6 : Value) :
  (((((((v.setCell ⟨R, 0, none⟩ b0).setCell ⟨R, 1, none⟩ b1).setCell ⟨R, 2, none⟩ b2).setCell ⟨R, 3, none⟩ b3).setCell ⟨R, 4, none⟩ b4).setCell ⟨R, 5, none⟩ b5).setCell ⟨R, 6, none⟩ b6).heap[R]? = some (.cells #[b0, b1, b2, b3, b4, b5, b6] t) := by
 have h7 := put_oneA (put_oneA (put_oneA (put_oneA (put_oneA (put_oneA (put_oneA h 0 b0) 1 b1) 2 b2) 3 b3) 4 b4) 5 b5) 6 b6
 simp only [List.setIfInBounds_toArray, List.set_cons_zero, List.set_cons_succ] at h7
 exact h7
theorem new_box (w : World) : ∃ W, w.alloc (.cells #[.int .i64 0, .string ⟨#[]⟩, .int .u32 0, .int .i64 0, .string ⟨#[]⟩, .slice none 0 0, .int .i64 0] 29) = W ∧ W.heap[w.heap.size]? = some (.cells #[.int .i64 0, .string ⟨#[]⟩, .int .u32 0, .int .i64 0, .string ⟨#[]⟩, .slice none 0 0, .int .i64 0] 29) ∧ Below w.heap.size w W ∧ W.heap.size = w.heap.size + 1 :=
 ⟨_, rfl, box_heapA w _, (Below.refl _ _).alloc (Nat.le_refl _) _, by simp⟩
set_option maxHeartbeats 1000000 in
theorem num_any (f : Int) (w : World) :
  Calls Tryz.prog 35 #[.int .u32 f] w fun e w' => e = .returned (nv (numN f) (.slice none 0 0)) ∧ Below w.heap.size w w' := by
 obtain ⟨W, hW, hX, hB, hs⟩ := new_box w
 obtain ⟨⟨g0, g1, g2, g3, g4, g5, g6⟩, f0, f1, f2, f3, f4, f5, f6⟩ := sevenA hX
 clear hX hs
 go_enter Tryz.func35, Tryz.ntmps35
 go_wp2
 refine bodyPost_ret (by simp [results, Tryz.results35, go_sem, *]; try rfl) rfl ?_
 exact ⟨rfl, below_seven hB _ _ _ _ _ _ _⟩
set_option maxHeartbeats 1000000 in
theorem flag_any (s : ByteArray) (w : World) :
  Calls Tryz.prog 37 #[.string s] w fun e w' => e = .returned (nv (flagN s) (.slice none 0 0)) ∧ Below w.heap.size w w' := by
 obtain ⟨W, hW, hX, hB, hs⟩ := new_box w
 obtain ⟨⟨g0, g1, g2, g3, g4, g5, g6⟩, f0, f1, f2, f3, f4, f5, f6⟩ := sevenA hX
 clear hX hs
 go_enter Tryz.func37, Tryz.ntmps37
 go_wp2
 refine bodyPost_ret (by simp [results, Tryz.results37, go_sem, *]; try rfl) rfl ?_
 exact ⟨rfl, below_seven hB _ _ _ _ _ _ _⟩
theorem info_NodeA : (Tryz.prog.info? 29).map (fun i => (i.zero, i.size, i.bytes)) = some (some (.agg #[.int .i64 0, .string ⟨#[]⟩, .int .u32 0, .int .i64 0, .string ⟨#[]⟩, .slice none 0 0, .int .i64 0]), 7, 88) := by kernel_rfl
set_option maxHeartbeats 1000000 in
theorem call0_any (s : ByteArray) (w : World) :
  Calls Tryz.prog 36 #[.string s, .slice none 0 0] w fun e w' => e = .returned (nv (callA s []) (.slice none 0 0)) ∧ Below w.heap.size w w' := by
 obtain ⟨W, hW, hX, hB, hs⟩ := new_box w
 obtain ⟨⟨g0, g1, g2, g3, g4, g5, g6⟩, f0, f1, f2, f3, f4, f5, f6⟩ := sevenA hX
 obtain ⟨i0, hi0, hz0, hz1, hz2⟩ := info_parts info_NodeA
 clear hX hs
 go_enter Tryz.func36, Tryz.ntmps36
 go_wp2_with (at_builtin; refine wpList_append_own_none rfl _ _ 27 rfl w.heap.size 29 i0 7 Tryz.underlying27 hi0 (.slice none 0 0) 0 [] rfl (World.ownsRow_nil _ _ _ 7) rfl ?_)
 refine bodyPost_ret (by simp [results, Tryz.results36, go_sem, *]; try rfl) rfl ?_
 exact ⟨rfl, below_seven hB _ _ _ _ _ _ _⟩
end Go.Proofs.YtmiidhgbdecdkaaGreat
