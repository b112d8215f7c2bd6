import Derived.Test.YtnbccaicijcklaaTks2
import Derived.Test.YtnbccaicijcklaaTks3
import Derived.Laws.FloatArith
import Derived.Laws.Externs
import Derived.Below
import Derived.Deep.Draws
import Derived.Laws.ComplexArith
import Derived.Test.YtnbccaicijcklaaTks1
namespace Go.Proofs.Ytnbccaicijcklaa
open Go.RowKit Go.Proofs.Try
set_option linter.all false
set_option maxRecDepth 100000
set_option maxHeartbeats 16000000
theorem OT(w:World):Calls prog 41 #[.int .i64 1] w fun e w'=>e=.returned (.tuple #[Cg (A4 1),.bool true])/\Below w.heap.size w w':=by
 exact Dq
theorem OU(w:World):Calls prog 41 #[.int .i64 2] w fun e w'=>e=.returned (.tuple #[Cg (A4 2),.bool true])/\Below w.heap.size w w':=by
 exact Dq
theorem OV(w:World):Calls prog 41 #[.int .i64 3] w fun e w'=>e=.returned (.tuple #[Cg (A4 3),.bool true])/\Below w.heap.size w w':=by
 exact Dq
theorem OW(w:World):Calls prog 41 #[.int .i64 4] w fun e w'=>e=.returned (.tuple #[Cg (A4 4),.bool true])/\Below w.heap.size w w':=by
 exact Dq
theorem OX(w:World):Calls prog 41 #[.int .i64 5] w fun e w'=>e=.returned (.tuple #[Cg (A4 5),.bool true])/\Below w.heap.size w w':=by
 exact Dq
theorem OY(w:World):Calls prog 41 #[.int .i64 6] w fun e w'=>e=.returned (.tuple #[Cg (A4 6),.bool true])/\Below w.heap.size w w':=by
 exact Dq
theorem OZ(w:World):Calls prog 41 #[.int .i64 7] w fun e w'=>e=.returned (.tuple #[Cg (A4 7),.bool true])/\Below w.heap.size w w':=by
 exact Dq
theorem P2(w:World):Calls prog 41 #[.int .i64 8] w fun e w'=>e=.returned (.tuple #[Cg (A4 8),.bool true])/\Below w.heap.size w w':=by
 exact Dq
theorem P3(w:World):Calls prog 41 #[.int .i64 9] w fun e w'=>e=.returned (.tuple #[Cg (A4 9),.bool true])/\Below w.heap.size w w':=by
 exact Dq
theorem MO(w:World):Calls prog 41 #[.int .i64 10] w fun e w'=>e=.returned (.tuple #[Cg (A4 10),.bool true])/\Below w.heap.size w w':=by
 exact Dq
theorem MP(w:World):Calls prog 41 #[.int .i64 11] w fun e w'=>e=.returned (.tuple #[Cg (A4 11),.bool true])/\Below w.heap.size w w':=by
 exact Dq
theorem MQ(w:World):Calls prog 41 #[.int .i64 12] w fun e w'=>e=.returned (.tuple #[Cg (A4 12),.bool true])/\Below w.heap.size w w':=by
 exact Dq
section
variable {P : Program} (w : World)
end
theorem T5{α:Type}{l:List α}(h:l.length=3):∃a b c,l=[a,b,c]:=by
 match l,h with
 |[a,b,c],_=>exact⟨a,b,c,rfl⟩
section
variable {P : Program} (w : World)
end
def Rr(s:ByteArray)(f i:Nat):Bs:=((bs s).drop f).take (i-f)
def JX(s:ByteArray):RH:=JY [] 0 (GV [] (bs s))
def NY(s:ByteArray)(acc:List Bt)(n f i:Nat):Prop:=
 (i<=s.size/\f<=i/\JX s=JY acc n (GV (Rr s f i) ((bs s).drop i)))\/(i=s.size+1/\JX s=⟨acc,0,0⟩)
structure PL(s:ByteArray)(w wr:World)(ov:Value)(j f n:Nat)(acc:List Bt):Prop where
 own:T7 wr w.heap.size ov acc
 may:∀p∈acc,Bl p=true
 lines:NY s acc n f j


def dn(o:Option Nat):Nat:=match o with
 |some _=>0
 |none=>1
section
variable {P : Program} (w : World)
end
section
variable (w : World) (n : Nat)
@[go_sem] theorem alloc_drewN (o:Obj):(w.drewN n).alloc o=(w.alloc o).drewN n:=rfl
@[go_sem] theorem setCell_drewN (a:Addr) (v:Value):(w.drewN n).setCell a v=(w.setCell a v).drewN n:=rfl
end
end Go.Proofs.Ytnbccaicijcklaa
