import Derived.Test.YtjlpkjblkllfbaaGreatDoorOwn15
import Derived.Deep.DeepCutAuto
import Derived.Test.YtjlpkjblkllfbaaGreatDoorOwn13
import Derived.Test.YtjlpkjblkllfbaaGreatDoorOwn11
import Derived.Test.YtjlpkjblkllfbaaGreatDoorOwn9
import Derived.Test.YtjlpkjblkllfbaaGreatDoorOwn8
import Derived.Test.YtjlpkjblkllfbaaGreatDoorOwn12
import Derived.Test.YtjlpkjblkllfbaaGreatDoorOwn14
import Derived.Test.YtjlpkjblkllfbaaGreatDoorOwn1
namespace Go.Proofs.YtjlpkjblkllfbaaGreatDoor
open Go.RowKit Go.Proofs.Tryz
set_option linter.all false
set_option maxRecDepth 100000
set_option maxHeartbeats 16000000
theorem A3{p:Prop}(h:p):Hid p:=h
theorem DA(w:World)(t:TypeId)(v0 v1 v2 v3:Value):(w.alloc (.cells #[v0,v1,v2,v3] t)).rowIs w.heap.size t 4 (f4 v0 v1 v2 v3):=
 World.rowIs_alloc w #[v0,v1,v2,v3] t _ (fun i hi=>by rcases(show i=0\/i=1\/i=2\/i=3 by have:i<4:=hi;omega)with rfl|rfl|rfl|rfl<;>rfl)
structure AA(C:Nat)(V V':World):Prop where
 oth:∀b,b≠C->V'.heap[b]? =V.heap[b]?
 bel:∀B,B<=C->Below B V V'
theorem AA.one(C o:Nat)(V:World)(v:Value):AA C V (V.setCell ⟨C,o,none⟩ v):=⟨fun b h=>gE h,fun B h=>(Below.refl _ _).setCell h _⟩
theorem AA.trans{C:Nat}{V V' V'':World}(h:AA C V V')(k:AA C V' V''):AA C V V'':=⟨fun b hb=>(k.oth b hb).trans (h.oth b hb),fun B hB=>(h.bel B hB).trans (k.bel B hB)⟩
theorem AA.row{C D n:Nat}{V V':World}{t:TypeId}{f:Nat->Value}(h:AA C V V')(r:V.rowIs D t n f)(hD:D≠C):V'.rowIs D t n f:=r.of_block (h.oth D hD)
theorem put4{V:World}{C:Nat}{t:TypeId}{f:Nat->Value}(rc:V.rowIs C t 4 f)(v0 v1 v2 v3:Value):((((V.setCell ⟨C,0,none⟩ v0).setCell ⟨C,1,none⟩ v1).setCell ⟨C,2,none⟩ v2).setCell ⟨C,3,none⟩ v3).rowIs C t 4 (f4 v0 v1 v2 v3)/\AA C V ((((V.setCell ⟨C,0,none⟩ v0).setCell ⟨C,1,none⟩ v1).setCell ⟨C,2,none⟩ v2).setCell ⟨C,3,none⟩ v3):=by
 refine⟨((((rc.set 0 v0).set 1 v1).set 2 v2).set 3 v3).congr fun j hj=>?_,(((AA.one C 0 V v0).trans (AA.one C 1 _ v1)).trans (AA.one C 2 _ v2)).trans (AA.one C 3 _ v3)⟩;exact Vj
theorem Qm{V:World}{C:Nat}{t:TypeId}{v0 v1 v2 v3:Value}(rc:V.rowIs C t 4 (f4 v0 v1 v2 v3))(v:Value):(V.setCell ⟨C,1,none⟩ v).rowIs C t 4 (f4 v0 v v2 v3)/\AA C V (V.setCell ⟨C,1,none⟩ v):=by
 refine⟨(rc.set 1 v).congr fun j hj=>?_,AA.one C 1 V v⟩;exact Vj
theorem c4{w:World}{b:Nat}{t:TypeId}{v0 v1 v2 v3:Value}(h:w.rowIs b t 4 (f4 v0 v1 v2 v3)):w.cell? ⟨b,0,none⟩=some v0/\w.cell? ⟨b,1,none⟩=some v1/\w.cell? ⟨b,2,none⟩=some v2/\w.cell? ⟨b,3,none⟩=some v3:=⟨h.cell (i:=0) dE,h.cell (i:=1) dE,h.cell (i:=2) dE,h.cell (i:=3) dE⟩
theorem z4{w:World}{b n:Nat}{t:TypeId}{f:Nat->Value}(h:w.rowIs b t n f):w.frozen? ⟨b,0,none⟩=false/\w.frozen? ⟨b,1,none⟩=false/\w.frozen? ⟨b,2,none⟩=false/\w.frozen? ⟨b,3,none⟩=false:=⟨h.frozen 0,h.frozen 1,h.frozen 2,h.frozen 3⟩
def g2(a0 a1:Value)(k:Nat):Value:=if k=0 then a0 else a1
theorem BJ(w:World)(t:TypeId)(a0 a1:Value):(w.alloc (.cells #[a0,a1] t)).rowIs w.heap.size t 2 (g2 a0 a1):=
 World.rowIs_alloc w #[a0,a1] t _ (fun i hi=>by rcases(show i=0\/i=1 by have:i<2:=hi;omega)with rfl|rfl<;>rfl)
theorem TN{V:World}{C:Nat}{t:TypeId}{f:Nat->Value}(rc:V.rowIs C t 2 f)(a0 a1:Value):((V.setCell ⟨C,0,none⟩ a0).setCell ⟨C,1,none⟩ a1).rowIs C t 2 (g2 a0 a1)/\AA C V ((V.setCell ⟨C,0,none⟩ a0).setCell ⟨C,1,none⟩ a1):=by
 refine⟨((rc.set 0 a0).set 1 a1).congr fun j hj=>?_,(AA.one C 0 V a0).trans (AA.one C 1 _ a1)⟩;rcases(show j=0\/j=1 by omega)with rfl|rfl<;>rfl
theorem UJ{V:World}{C:Nat}{t:TypeId}{a0 a1:Value}(rc:V.rowIs C t 2 (g2 a0 a1))(v:Value):(V.setCell ⟨C,1,none⟩ v).rowIs C t 2 (g2 a0 v)/\AA C V (V.setCell ⟨C,1,none⟩ v):=by
 refine⟨(rc.set 1 v).congr fun j hj=>?_,AA.one C 1 V v⟩;rcases(show j=0\/j=1 by omega)with rfl|rfl<;>rfl
theorem c2{w:World}{b:Nat}{t:TypeId}{a0 a1:Value}(h:w.rowIs b t 2 (g2 a0 a1)):w.cell? ⟨b,0,none⟩=some a0/\w.cell? ⟨b,1,none⟩=some a1:=⟨h.cell (i:=0) dE,h.cell (i:=1) dE⟩
theorem z2{w:World}{b n:Nat}{t:TypeId}{f:Nat->Value}(h:w.rowIs b t n f):w.frozen? ⟨b,0,none⟩=false/\w.frozen? ⟨b,1,none⟩=false:=⟨h.frozen 0,h.frozen 1⟩
def g3(a0 a1 a2:Value)(k:Nat):Value:=if k=0 then a0 else if k=1 then a1 else a2
theorem Cs(w:World)(t:TypeId)(a0 a1 a2:Value):(w.alloc (.cells #[a0,a1,a2] t)).rowIs w.heap.size t 3 (g3 a0 a1 a2):=
 World.rowIs_alloc w #[a0,a1,a2] t _ (fun i hi=>by rcases(show i=0\/i=1\/i=2 by have:i<3:=hi;omega)with rfl|rfl|rfl<;>rfl)
theorem c3{w:World}{b:Nat}{t:TypeId}{a0 a1 a2:Value}(h:w.rowIs b t 3 (g3 a0 a1 a2)):w.cell? ⟨b,0,none⟩=some a0/\w.cell? ⟨b,1,none⟩=some a1/\w.cell? ⟨b,2,none⟩=some a2:=⟨h.cell (i:=0) dE,h.cell (i:=1) dE,h.cell (i:=2) dE⟩
theorem z3{w:World}{b n:Nat}{t:TypeId}{f:Nat->Value}(h:w.rowIs b t n f):w.frozen? ⟨b,0,none⟩=false/\w.frozen? ⟨b,1,none⟩=false/\w.frozen? ⟨b,2,none⟩=false:=⟨h.frozen 0,h.frozen 1,h.frozen 2⟩
def g5(a0 a1 a2 a3 a4:Value)(k:Nat):Value:=if k=0 then a0 else if k=1 then a1 else if k=2 then a2 else if k=3 then a3 else a4
theorem CG(w:World)(t:TypeId)(a0 a1 a2 a3 a4:Value):(w.alloc (.cells #[a0,a1,a2,a3,a4] t)).rowIs w.heap.size t 5 (g5 a0 a1 a2 a3 a4):=
 World.rowIs_alloc w #[a0,a1,a2,a3,a4] t _ (fun i hi=>by rcases(show i=0\/i=1\/i=2\/i=3\/i=4 by have:i<5:=hi;omega)with rfl|rfl|rfl|rfl|rfl<;>rfl)
theorem LF{V:World}{C:Nat}{t:TypeId}{a0 a1 a2 a3 a4:Value}(rc:V.rowIs C t 5 (g5 a0 a1 a2 a3 a4))(v:Value):(V.setCell ⟨C,3,none⟩ v).rowIs C t 5 (g5 a0 a1 a2 v a4)/\AA C V (V.setCell ⟨C,3,none⟩ v):=by
 refine⟨(rc.set 3 v).congr fun j hj=>?_,AA.one C 3 V v⟩;exact WW
theorem LG{V:World}{C:Nat}{t:TypeId}{a0 a1 a2 a3 a4:Value}(rc:V.rowIs C t 5 (g5 a0 a1 a2 a3 a4))(v:Value):(V.setCell ⟨C,4,none⟩ v).rowIs C t 5 (g5 a0 a1 a2 a3 v)/\AA C V (V.setCell ⟨C,4,none⟩ v):=by
 refine⟨(rc.set 4 v).congr fun j hj=>?_,AA.one C 4 V v⟩;exact WW
theorem c5{w:World}{b:Nat}{t:TypeId}{a0 a1 a2 a3 a4:Value}(h:w.rowIs b t 5 (g5 a0 a1 a2 a3 a4)):w.cell? ⟨b,0,none⟩=some a0/\w.cell? ⟨b,1,none⟩=some a1/\w.cell? ⟨b,2,none⟩=some a2/\w.cell? ⟨b,3,none⟩=some a3/\w.cell? ⟨b,4,none⟩=some a4:=⟨h.cell (i:=0) dE,h.cell (i:=1) dE,h.cell (i:=2) dE,h.cell (i:=3) dE,h.cell (i:=4) dE⟩
theorem z5{w:World}{b n:Nat}{t:TypeId}{f:Nat->Value}(h:w.rowIs b t n f):w.frozen? ⟨b,0,none⟩=false/\w.frozen? ⟨b,1,none⟩=false/\w.frozen? ⟨b,2,none⟩=false/\w.frozen? ⟨b,3,none⟩=false/\w.frozen? ⟨b,4,none⟩=false:=⟨h.frozen 0,h.frozen 1,h.frozen 2,h.frozen 3,h.frozen 4⟩
def g7(a0 a1 a2 a3 a4 a5 a6:Value)(k:Nat):Value:=if k=0 then a0 else if k=1 then a1 else if k=2 then a2 else if k=3 then a3 else if k=4 then a4 else if k=5 then a5 else a6
theorem J9(w:World)(t:TypeId)(a0 a1 a2 a3 a4 a5 a6:Value):(w.alloc (.cells #[a0,a1,a2,a3,a4,a5,a6] t)).rowIs w.heap.size t 7 (g7 a0 a1 a2 a3 a4 a5 a6):=
 World.rowIs_alloc w #[a0,a1,a2,a3,a4,a5,a6] t _ (fun i hi=>by rcases(show i=0\/i=1\/i=2\/i=3\/i=4\/i=5\/i=6 by have:i<7:=hi;omega)with rfl|rfl|rfl|rfl|rfl|rfl|rfl<;>rfl)
theorem UL{V:World}{C:Nat}{t:TypeId}{a0 a1 a2 a3 a4 a5 a6:Value}(rc:V.rowIs C t 7 (g7 a0 a1 a2 a3 a4 a5 a6))(v:Value):(V.setCell ⟨C,1,none⟩ v).rowIs C t 7 (g7 a0 v a2 a3 a4 a5 a6)/\AA C V (V.setCell ⟨C,1,none⟩ v):=by
 refine⟨(rc.set 1 v).congr fun j hj=>?_,AA.one C 1 V v⟩;exact RQ
theorem Qn{V:World}{C:Nat}{t:TypeId}{a0 a1 a2 a3 a4 a5 a6:Value}(rc:V.rowIs C t 7 (g7 a0 a1 a2 a3 a4 a5 a6))(v:Value):(V.setCell ⟨C,2,none⟩ v).rowIs C t 7 (g7 a0 a1 v a3 a4 a5 a6)/\AA C V (V.setCell ⟨C,2,none⟩ v):=by
 refine⟨(rc.set 2 v).congr fun j hj=>?_,AA.one C 2 V v⟩;exact RQ
theorem Qo{V:World}{C:Nat}{t:TypeId}{a0 a1 a2 a3 a4 a5 a6:Value}(rc:V.rowIs C t 7 (g7 a0 a1 a2 a3 a4 a5 a6))(v:Value):(V.setCell ⟨C,3,none⟩ v).rowIs C t 7 (g7 a0 a1 a2 v a4 a5 a6)/\AA C V (V.setCell ⟨C,3,none⟩ v):=by
 refine⟨(rc.set 3 v).congr fun j hj=>?_,AA.one C 3 V v⟩;exact RQ
theorem Qp{V:World}{C:Nat}{t:TypeId}{a0 a1 a2 a3 a4 a5 a6:Value}(rc:V.rowIs C t 7 (g7 a0 a1 a2 a3 a4 a5 a6))(v:Value):(V.setCell ⟨C,4,none⟩ v).rowIs C t 7 (g7 a0 a1 a2 a3 v a5 a6)/\AA C V (V.setCell ⟨C,4,none⟩ v):=by
 refine⟨(rc.set 4 v).congr fun j hj=>?_,AA.one C 4 V v⟩;exact RQ
theorem UM{V:World}{C:Nat}{t:TypeId}{a0 a1 a2 a3 a4 a5 a6:Value}(rc:V.rowIs C t 7 (g7 a0 a1 a2 a3 a4 a5 a6))(v:Value):(V.setCell ⟨C,5,none⟩ v).rowIs C t 7 (g7 a0 a1 a2 a3 a4 v a6)/\AA C V (V.setCell ⟨C,5,none⟩ v):=by
 refine⟨(rc.set 5 v).congr fun j hj=>?_,AA.one C 5 V v⟩;exact RQ
theorem UN{V:World}{C:Nat}{t:TypeId}{a0 a1 a2 a3 a4 a5 a6:Value}(rc:V.rowIs C t 7 (g7 a0 a1 a2 a3 a4 a5 a6))(v:Value):(V.setCell ⟨C,6,none⟩ v).rowIs C t 7 (g7 a0 a1 a2 a3 a4 a5 v)/\AA C V (V.setCell ⟨C,6,none⟩ v):=by
 refine⟨(rc.set 6 v).congr fun j hj=>?_,AA.one C 6 V v⟩;exact RQ
theorem c7{w:World}{b:Nat}{t:TypeId}{a0 a1 a2 a3 a4 a5 a6:Value}(h:w.rowIs b t 7 (g7 a0 a1 a2 a3 a4 a5 a6)):w.cell? ⟨b,0,none⟩=some a0/\w.cell? ⟨b,1,none⟩=some a1/\w.cell? ⟨b,2,none⟩=some a2/\w.cell? ⟨b,3,none⟩=some a3/\w.cell? ⟨b,4,none⟩=some a4/\w.cell? ⟨b,5,none⟩=some a5/\w.cell? ⟨b,6,none⟩=some a6:=⟨h.cell (i:=0) dE,h.cell (i:=1) dE,h.cell (i:=2) dE,h.cell (i:=3) dE,h.cell (i:=4) dE,h.cell (i:=5) dE,h.cell (i:=6) dE⟩
theorem z7{w:World}{b n:Nat}{t:TypeId}{f:Nat->Value}(h:w.rowIs b t n f):w.frozen? ⟨b,0,none⟩=false/\w.frozen? ⟨b,1,none⟩=false/\w.frozen? ⟨b,2,none⟩=false/\w.frozen? ⟨b,3,none⟩=false/\w.frozen? ⟨b,4,none⟩=false/\w.frozen? ⟨b,5,none⟩=false/\w.frozen? ⟨b,6,none⟩=false:=⟨h.frozen 0,h.frozen 1,h.frozen 2,h.frozen 3,h.frozen 4,h.frozen 5,h.frozen 6⟩
theorem UK{V:World}{C:Nat}{t:TypeId}{a0 a1 a2:Value}(rc:V.rowIs C t 3 (g3 a0 a1 a2))(v:Value):(V.setCell ⟨C,0,none⟩ v).rowIs C t 3 (g3 v a1 a2)/\AA C V (V.setCell ⟨C,0,none⟩ v):=by
 refine⟨(rc.set 0 v).congr fun j hj=>?_,AA.one C 0 V v⟩;exact X8
theorem LD{V:World}{C:Nat}{t:TypeId}{a0 a1 a2:Value}(rc:V.rowIs C t 3 (g3 a0 a1 a2))(v:Value):(V.setCell ⟨C,1,none⟩ v).rowIs C t 3 (g3 a0 v a2)/\AA C V (V.setCell ⟨C,1,none⟩ v):=by
 refine⟨(rc.set 1 v).congr fun j hj=>?_,AA.one C 1 V v⟩;exact X8
theorem J8{V:World}{C:Nat}{t:TypeId}{a0 a1 a2:Value}(rc:V.rowIs C t 3 (g3 a0 a1 a2))(v:Value):(V.setCell ⟨C,2,none⟩ v).rowIs C t 3 (g3 a0 a1 v)/\AA C V (V.setCell ⟨C,2,none⟩ v):=by
 refine⟨(rc.set 2 v).congr fun j hj=>?_,AA.one C 2 V v⟩;exact X8
def IV(a0 a1 a2 a3 a4 a5 a6 a7 a8 a9 a10:Value)(k:Nat):Value:=if k=0 then a0 else if k=1 then a1 else if k=2 then a2 else if k=3 then a3 else if k=4 then a4 else if k=5 then a5 else if k=6 then a6 else if k=7 then a7 else if k=8 then a8 else if k=9 then a9 else a10
theorem SV(w:World)(t:TypeId)(a0 a1 a2 a3 a4 a5 a6 a7 a8 a9 a10:Value):(w.alloc (.cells #[a0,a1,a2,a3,a4,a5,a6,a7,a8,a9,a10] t)).rowIs w.heap.size t 11 (IV a0 a1 a2 a3 a4 a5 a6 a7 a8 a9 a10):=
 World.rowIs_alloc w #[a0,a1,a2,a3,a4,a5,a6,a7,a8,a9,a10] t _ (fun i hi=>by rcases(show i=0\/i=1\/i=2\/i=3\/i=4\/i=5\/i=6\/i=7\/i=8\/i=9\/i=10 by have:i<11:=hi;omega)with rfl|rfl|rfl|rfl|rfl|rfl|rfl|rfl|rfl|rfl|rfl<;>rfl)
theorem SN{V:World}{C:Nat}{t:TypeId}{a0 a1 a2 a3 a4 a5 a6 a7 a8 a9 a10:Value}(rc:V.rowIs C t 11 (IV a0 a1 a2 a3 a4 a5 a6 a7 a8 a9 a10))(v:Value):(V.setCell ⟨C,0,none⟩ v).rowIs C t 11 (IV v a1 a2 a3 a4 a5 a6 a7 a8 a9 a10)/\AA C V (V.setCell ⟨C,0,none⟩ v):=by
 refine⟨(rc.set 0 v).congr fun j hj=>?_,AA.one C 0 V v⟩;exact Va
theorem SO{V:World}{C:Nat}{t:TypeId}{a0 a1 a2 a3 a4 a5 a6 a7 a8 a9 a10:Value}(rc:V.rowIs C t 11 (IV a0 a1 a2 a3 a4 a5 a6 a7 a8 a9 a10))(v:Value):(V.setCell ⟨C,1,none⟩ v).rowIs C t 11 (IV a0 v a2 a3 a4 a5 a6 a7 a8 a9 a10)/\AA C V (V.setCell ⟨C,1,none⟩ v):=by
 refine⟨(rc.set 1 v).congr fun j hj=>?_,AA.one C 1 V v⟩;exact Va
theorem SP{V:World}{C:Nat}{t:TypeId}{a0 a1 a2 a3 a4 a5 a6 a7 a8 a9 a10:Value}(rc:V.rowIs C t 11 (IV a0 a1 a2 a3 a4 a5 a6 a7 a8 a9 a10))(v:Value):(V.setCell ⟨C,2,none⟩ v).rowIs C t 11 (IV a0 a1 v a3 a4 a5 a6 a7 a8 a9 a10)/\AA C V (V.setCell ⟨C,2,none⟩ v):=by
 refine⟨(rc.set 2 v).congr fun j hj=>?_,AA.one C 2 V v⟩;exact Va
theorem SQ{V:World}{C:Nat}{t:TypeId}{a0 a1 a2 a3 a4 a5 a6 a7 a8 a9 a10:Value}(rc:V.rowIs C t 11 (IV a0 a1 a2 a3 a4 a5 a6 a7 a8 a9 a10))(v:Value):(V.setCell ⟨C,3,none⟩ v).rowIs C t 11 (IV a0 a1 a2 v a4 a5 a6 a7 a8 a9 a10)/\AA C V (V.setCell ⟨C,3,none⟩ v):=by
 refine⟨(rc.set 3 v).congr fun j hj=>?_,AA.one C 3 V v⟩;exact Va
theorem SR{V:World}{C:Nat}{t:TypeId}{a0 a1 a2 a3 a4 a5 a6 a7 a8 a9 a10:Value}(rc:V.rowIs C t 11 (IV a0 a1 a2 a3 a4 a5 a6 a7 a8 a9 a10))(v:Value):(V.setCell ⟨C,4,none⟩ v).rowIs C t 11 (IV a0 a1 a2 a3 v a5 a6 a7 a8 a9 a10)/\AA C V (V.setCell ⟨C,4,none⟩ v):=by
 refine⟨(rc.set 4 v).congr fun j hj=>?_,AA.one C 4 V v⟩;exact Va
theorem SS{V:World}{C:Nat}{t:TypeId}{a0 a1 a2 a3 a4 a5 a6 a7 a8 a9 a10:Value}(rc:V.rowIs C t 11 (IV a0 a1 a2 a3 a4 a5 a6 a7 a8 a9 a10))(v:Value):(V.setCell ⟨C,5,none⟩ v).rowIs C t 11 (IV a0 a1 a2 a3 a4 v a6 a7 a8 a9 a10)/\AA C V (V.setCell ⟨C,5,none⟩ v):=by
 refine⟨(rc.set 5 v).congr fun j hj=>?_,AA.one C 5 V v⟩;exact Va
theorem Yq{w:World}{b:Nat}{t:TypeId}{a0 a1 a2 a3 a4 a5 a6 a7 a8 a9 a10:Value}(h:w.rowIs b t 11 (IV a0 a1 a2 a3 a4 a5 a6 a7 a8 a9 a10)):w.cell? ⟨b,0,none⟩=some a0/\w.cell? ⟨b,1,none⟩=some a1/\w.cell? ⟨b,2,none⟩=some a2/\w.cell? ⟨b,3,none⟩=some a3/\w.cell? ⟨b,4,none⟩=some a4/\w.cell? ⟨b,5,none⟩=some a5/\w.cell? ⟨b,6,none⟩=some a6/\w.cell? ⟨b,7,none⟩=some a7/\w.cell? ⟨b,8,none⟩=some a8/\w.cell? ⟨b,9,none⟩=some a9/\w.cell? ⟨b,10,none⟩=some a10:=⟨h.cell (i:=0) dE,h.cell (i:=1) dE,h.cell (i:=2) dE,h.cell (i:=3) dE,h.cell (i:=4) dE,h.cell (i:=5) dE,h.cell (i:=6) dE,h.cell (i:=7) dE,h.cell (i:=8) dE,h.cell (i:=9) dE,h.cell (i:=10) dE⟩
structure BS(B:Nat)(w w':World):Prop where
 oth:∀b,b<w.heap.size->b≠B->w'.heap[b]? =w.heap[b]?
 bel:∀E,E<=B->E<=w.heap.size->Below E w w'
 size:w.heap.size<=w'.heap.size
theorem BS.of{B:Nat}{w w':World}(k:Below w.heap.size w w'):BS B w w':=⟨fun b h _=>k.block b h,fun E _ h=>k.mono h,k.size⟩
theorem BS.trans{B:Nat}{w w' w'':World}(h:BS B w w')(k:BS B w' w''):BS B w w'':=
 ⟨fun b h1 h2=>(k.oth b (Nat.lt_of_lt_of_le h1 h.size) h2).trans (h.oth b h1 h2),fun E h1 h2=>(h.bel E h1 h2).trans (k.bel E h1 (gH h2 h.size)),gH h.size k.size⟩
theorem BS.put{B:Nat}{w w':World}(h:AA B w w')(hB:B<w.heap.size):BS B w w':=⟨fun b _ h1=>h.oth b h1,fun E h1 _=>h.bel E h1,(h.bel B (gF _)).size⟩
theorem Ph{a x y z:Bs}(ha:∀b∈a,nb b≠32)(hx:∀b∈x,b≠32)(h:a++32::y=x++32::z):a=x/\y=z:=by
 induction a generalizing x with
 |nil=>
  cases x with
  |nil=>simpa using h
  |cons c x=>
   have e:=(List.cons.inj h).1;exact absurd e.symm (hx c sM)
 |cons b a ih=>
  cases x with
  |nil=>
   have e:=(List.cons.inj h).1;exact absurd (show nb b=32 by rw[e];rfl) (ha b sM)
  |cons c x=>
   obtain⟨e1,e2⟩:=List.cons.inj h;obtain⟨e3,e4⟩:=ih (fun d hd=>ha d (List.mem_cons_of_mem _ hd)) (fun d hd=>hx d (List.mem_cons_of_mem _ hd)) e2;exact⟨by rw[e1,e3],e4⟩
theorem Pp{ws:List Bs}(hn:∀x∈ws,∀c∈x,nb c≠32):Lib.cut (A7 ws) [32]=((Ab ws).1,A7 (Ab ws).2,!decide ((Ab ws).2=[])):=by
 match ws,hn with
 |[],_=>rfl
 |[a],hn=>
  have ha:=hn a sM;rcases Gs 32 a with⟨e,_⟩|⟨x,y,hs,_,_⟩
  .exact e
  .exact absurd rfl (show¬nb 32=32 from ha 32 (by rw[hs];simp))
 |a::b::r,hn=>
  have ha:=hn a sM;rcases Gs 32 (A7 (a::b::r))with⟨_,hno⟩|⟨x,y,hs,hx,e⟩
  .exact absurd rfl (hno 32 (by rw[Be sM];simp))
  .rw[e];rw[Be sM]at hs;obtain⟨e1,e2⟩:=Ph ha hx hs;show(x,y,true)=(a,A7 (b::r),_);rw[<-e1,<-e2];rfl
theorem FN(ws:List Bs):(A7 (Ab ws).2).length<=(A7 ws).length/\(Ab ws).1.length<=(A7 ws).length:=by
 match ws with
 |[]=>exact⟨gF _,gF _⟩
 |[a]=>exact⟨gJ _,gF _⟩
 |a::b::r=>
  rw[Be sM];constructor
  .show(A7 (b::r)).length<=_;rw[List.length_append,List.length_cons];omega
  .show a.length<=_;rw[List.length_append];omega
theorem PZ{ws:List Bs}{x:Bs}(h:x∈(Ab ws).2):x∈ws:=by
 cases ws with
 |nil=>exact h
 |cons a r=>exact List.mem_cons_of_mem _ h
structure CD(B:Nat)(ws:List Bs)(b:Bool)(w:World):Prop where
 row:∃T:ByteArray,bs T=A7 ws/\T.size<=4194304/\w.rowIs B 102 3 (g3 (.string T) (.bool (decide (ws=[]))) (.bool b))
 no:∀x∈ws,∀c∈x,nb c≠32
theorem CD.lt{B:Nat}{ws:List Bs}{b:Bool}{w:World}(h:CD B ws b w):B<w.heap.size:=by obtain⟨T,_,_,h⟩:=h.row;exact h.lt
theorem CD.below{B:Nat}{ws:List Bs}{b:Bool}{w w':World}(h:CD B ws b w)(k:Below w.heap.size w w'):CD B ws b w':=by
 obtain⟨T,h1,h2,h3⟩:=h.row;exact⟨⟨T,h1,h2,h3.of_block (k.block B h3.lt)⟩,h.no⟩
theorem Mj(s:ByteArray)(hs:s.size<=4194304)(w:World)(hL:BL w):
 Calls prog 27 #[.string s,.string ⟨#[32]⟩] w fun e w'=>e=.returned (.tuple #[.string (A6 (Lib.cut (bs s) [32]).1),.string (A6 (Lib.cut (bs s) [32]).2.1),.bool (Lib.cut (bs s) [32]).2.2])/\Below w.heap.size w w':=by
 obtain⟨m,hm⟩:=hL.mx;exact(Ei s ⟨#[32]⟩ m w oM hm).mono fun e w' ⟨he,n,hw⟩=>⟨he,by subst hw;exact L6 w n⟩
theorem Cc(B:Nat)(ws:List Bs)(b:Bool)(w:World)(hL:BL w)(h:CD B ws b w):
 Calls prog 76 #[.pointer (some ⟨B,0,none⟩)] w fun e w'=>∃U:ByteArray,e=.returned (.string U)/\bs U=(Ab ws).1/\U.size<=4194304/\CD B (Ab ws).2 b w'/\BS B w w':=by
 obtain⟨T,hT,hs,hr⟩:=h.row;have K:=A3 (Mj T hs w hL);rw[hT,Pp h.no]at K;obtain⟨U,hU⟩:∃U:ByteArray,A6 (Ab ws).1=U:=⟨_,rfl⟩
 obtain⟨R,hR⟩:∃U:ByteArray,A6 (A7 (Ab ws).2)=U:=⟨_,rfl⟩
 have hbU:bs U=(Ab ws).1:=by rw[<-hU];exact AZ _
 have hbR:bs R=A7 (Ab ws).2:=by rw[<-hR];exact AZ _
 have sT:(A7 ws).length=T.size:=by rw[<-hT];exact A9 _
 have sU:U.size<=4194304:=by rw[<-A9,hbU];have:=(FN ws).2;omega
 have sR:R.size<=4194304:=by rw[<-A9,hbR];have:=(FN ws).1;omega
 simp only at K;rw[hU,hR]at K;obtain⟨D,hD⟩:∃d,decide ((Ab ws).2=[])=d:=⟨_,rfl⟩
 rw[hD]at K;have HX:=A3 (And.intro hbU (And.intro sU (And.intro hbR (And.intro sR hD))));have HN:=A3 h.no;obtain⟨c0,c1,c2⟩:=c3 hr;have HR:=A3 hr;clear h hT hs hr hU hR hbU hbR sT sU sR hD hL;go_enter func76,ntmps76;go_upto_region 2 with(go_at_call 27;(with_reducible refine K.out.mono ?_);rintro e w1 ⟨rfl,hb1⟩;have HB1:=A3 hb1;clear hb1)
 have hr1:=HR.of_block (HB1.block _ HR.lt);have HR1:=A3 hr1;clear c0 c1 c2;obtain⟨c0,c1,c2⟩:=c3 hr1;obtain⟨f0,f1,f2⟩:=z3 hr1;have hp0:=UK hr1 (.string R);have hp1:=LD hp0.1 (.bool (!(!D)));have hdd:(!(!D))=D:=by cases D<;>rfl
 rw[hdd]at hp1;have HP:=A3 (And.intro hp1.1 (hp0.2.trans hp1.2));clear hr1 hp0 hp1;go_wp2;refine bodyPost_ret (by simp[results,results76,go_sem, *];try rfl) rfl ?_;obtain⟨x1,x2,x3,x4,x5⟩:=HX.out;refine⟨U,rfl,x1,x2,⟨⟨R,x3,x4,?_⟩,fun x hx=>HN.out x (PZ hx)⟩,?_⟩
 .rw[x5];simpa using HP.1
 .exact(BS.of HB1.out).trans (by simpa using BS.put HP.2 HR1.lt)
theorem BH(B:Nat)(ws:List Bs)(b s:Bool)(w:World)(h:CD B ws b w):
 Calls prog 80 #[.pointer (some ⟨B,0,none⟩),.bool s] w fun e w'=>e=.returned (.tuple #[])/\CD B ws (b|| !s) w'/\BS B w w':=by
 obtain⟨T,hT,hs,hr⟩:=h.row;obtain⟨c0,c1,c2⟩:=c3 hr;obtain⟨f0,f1,f2⟩:=z3 hr;have HP:=A3 (J8 hr (.bool (b|| !s)));have HR:=A3 hr;have HX:=A3 (And.intro hT (And.intro hs h.no));clear h hT hs hr;cases b with
 |true=>
  go_enter func80,ntmps80;go_wp2;refine bodyPost_end (by simp[results,results80,go_sem, *];try rfl) rfl ?_;exact⟨rfl,⟨⟨T,HX.1,HX.2.1,HP.1⟩,HX.2.2⟩,BS.put HP.2 HR.lt⟩
 |false=>
  go_enter func80,ntmps80;go_wp2;refine bodyPost_end (by simp[results,results80,go_sem, *];try rfl) rfl ?_;exact⟨rfl,⟨⟨T,HX.1,HX.2.1,by simpa using HP.1⟩,HX.2.2⟩,by simpa using BS.put HP.2 HR.lt⟩
theorem DM(B:Nat)(ws:List Bs)(b:Bool)(w:World)(h:CD B ws b w):
 Calls prog 52 #[.pointer (some ⟨B,0,none⟩)] w fun e w'=>e=.returned (.bool (decide (ws=[])&& !b))/\w'=w:=by
 obtain⟨T,hT,hs,hr⟩:=h.row;obtain⟨c0,c1,c2⟩:=c3 hr;obtain⟨D,hD⟩:∃d,decide (ws=[])=d:=⟨_,rfl⟩
 rw[hD]at c1 |-;clear h hT hs hr hD;cases D with
 |true=>
  go_enter func52,ntmps52;go_wp2;go_ret;exact⟨sM,rfl⟩
 |false=>
  go_enter func52,ntmps52;go_wp2;go_ret;exact⟨rfl,rfl⟩
theorem Cj(n:Int)(h0: -9223372036854775808<=n)(h1:n<=9223372036854775807)(w:World)(hL:BL w):
 Calls prog 69 #[.int .i64 n] w fun e w'=>e=.returned (.string (A6 (Lib.itoa n)))/\Below w.heap.size w w':=by
 have K:=A3 (PI n h0 h1 w hL);clear hL;go_enter func69,ntmps69;go_wp2_with(go_at_call 109;(with_reducible refine K.out.mono ?_);rintro e w1 ⟨rfl,hb⟩);go_ret;exact⟨rfl,hb⟩
theorem Pl(w:World):(zeroValue 3).run prog w=.ok (.int .i64 0) w:=kR
def BN(w:World)(C:Nat)(g:Bs->Option Nat):Prop:=∃n,D6 w C n (fun k=>(g (bs k)).map fun x=>.int .i64 (x:Int))
theorem BN.ofB{w w':World}{B C:Nat}{g:Bs->Option Nat}(h:BN w C g)(k:BS B w w')(hC:C≠B):BN w' C g:=by
 obtain⟨n,h⟩:=h;exact⟨n,h.block (k.oth C h.lt hC)⟩
theorem CD.ne{B C:Nat}{ws:List Bs}{b:Bool}{w:World}{g:Bs->Option Nat}(h:CD B ws b w)(k:BN w C g):C≠B:=by
 obtain⟨T,h1,h2,h3⟩:=h.row;obtain⟨n,k⟩:=k;exact fun e=>k.cell (c3 h3).1 e.symm
theorem Pk(s:ByteArray)(hs:s.size<=4194304)(n:Int)(h:Lib.atoiAll (bs s)=.ok n)(w:World):
 Calls prog 140 #[.string s] w fun e w'=>e=.returned (.tuple #[.int .i64 n,.nilIface])/\Below w.heap.size w w':=by
 refine(F2 s oM n h w).mono fun e w' ⟨he,hw⟩=>⟨he,?_⟩
 rcases hw with rfl|⟨t,rfl⟩
 .exact BY _
 .exact Lib.bytesWorld_below _ _ _
theorem NL(s:ByteArray)(hs:s.size<=4194304)(h:∀n,Lib.atoiAll (bs s)≠ .ok n)(w:World)(hL:BL w):
 Calls prog 140 #[.string s] w fun e w'=>∃x N,e=.returned (.tuple #[.int .i64 x,.iface 205 (.pointer (some ⟨N,0,none⟩))])/\Below w.heap.size w w':=by
 cases e:Lib.atoiAll (bs s)with
 |ok n=>exact absurd e (h n)
 | «syntax»=>
  obtain⟨a,b,hc⟩:=hL.syn;exact(DI s oM e _ w hc (.inr ⟨a,b,rfl⟩)).mono fun e w' ⟨N,he,_,_,hb⟩=>⟨_,N,he,hb⟩
 |range=>
  obtain⟨a,b,hc⟩:=hL.rng;exact(DX s oM e _ w hc (.inr ⟨a,b,rfl⟩)).mono fun e w' ⟨N,he,_,_,hb⟩=>⟨_,N,he,hb⟩
theorem Ey(B C:Nat)(ws:List Bs)(b:Bool)(g:Bs->Option Nat)(w:World)(hL:BL w)(h:CD B ws b w)(hm:BN w C g):
 Calls prog 78 #[.pointer (some ⟨B,0,none⟩),.map (some C)] w fun e w'=>e=.returned (.int .i64 (((g (Ab ws).1).getD 0:Nat):Int))/\CD B (Ab ws).2 (b|| !(g (Ab ws).1).isSome) w'/\BS B w w':=by
 have hne:=h.ne hm;have K:=A3 (Cc B ws b w hL h);have HM:=A3 hm;have HE:=A3 hne;obtain⟨R,hR⟩:=gA (g (Ab ws).1)
 have HLK:Hid (∀U:ByteArray,bs U=(Ab ws).1->U.size<=4194304->∀v,BS B w v->(Instr.lookup 46 (.map (some C)) (.string U) true).run prog v=.ok (.tuple #[.int .i64 ((R.getD 0:Nat):Int),.bool R.isSome]) v):=fun U h1 h2 v hv=>by
  obtain⟨n,hf⟩:=HM.ofB hv HE.out;have h9:=hf.look2 (k:=U) underlying46 (Pl v) mL;rw[h9];simp only[h1,hR];cases R<;>rfl
 rw[hR];clear h hm hL hne;go_enter func78,ntmps78;go_wp2_with(first
  |(go_at_call 76;(with_reducible refine K.out.mono ?_);rintro e w1 ⟨U,rfl,hU,hU2,h1,k1⟩;have hl1:=HLK.out U hU hU2 w1 k1)
  |(go_at_call 80;(with_reducible refine(BH B _ b _ _ h1).mono ?_);rintro e w2 ⟨rfl,h2,k2⟩))
 go_ret;exact⟨rfl,h2,k1.trans k2⟩
def RO(B:Nat)(w:World)(k:IntKind)(ws:List Bs)(b:Bool)(o:Option Int)(e:Ending)(w':World):Prop:=
 ∃n:Int,e=.returned (.int k n)/\(∀m,o=some m->n=m)/\CD B ws (b|| !o.isSome) w'/\BS B w w'
theorem Hn(B:Nat)(ws:List Bs)(b:Bool)(T:ByteArray)(hT:T.size<=4194304)(w:World)(hL:BL w)(h:CD B ws b w):
 Calls prog 119 #[.pointer (some ⟨B,0,none⟩),.string T] w (RO B w .i64 ws b (Af (bs T))):=by
 have HL:=A3 hL;by_cases hA:∃n,Lib.atoiAll (bs T)=.ok n
 .obtain⟨n,hn⟩:=hA;have hbd:=Lib.atoiAll_bounds hn;have hask:=Oj hn;have K1:=A3 (Pk T hT n hn w);have K2:Hid (∀w,BL w->Calls prog 69 #[.int .i64 n] w fun e w'=>e=.returned (.string (A6 (Lib.itoa n)))/\Below w.heap.size w w'):=fun w h=>Cj n hbd.1 hbd.2 w h;have hsof:(A6 (Lib.itoa n)).toList=Lib.itoa n:=by rw[ByteArray.toList_eq];exact AZ _
  have hst:T.toList=bs T:=ByteArray.toList_eq T;have H:=A3 h;by_cases h0:0<=n/\n<=2147483647
  .obtain⟨h0,h1⟩:=h0;by_cases he:Lib.itoa n=bs T
   .have e1:((A6 (Lib.itoa n)).toList==T.toList)=true:=by rw[hsof,hst,he];simp
    have e2:Af (bs T)=some n:=hask.2 ⟨⟨h0,h1⟩,he⟩;rw[e2];clear he hsof hst hask hn hbd e2 hL h;go_enter func119,ntmps119;go_wp2_with(first
     |(go_at_call 140;(with_reducible refine K1.out.mono ?_);rintro e w1 ⟨rfl,hb1⟩)
     |(go_at_call 69;(with_reducible refine(K2.out _ (HL.out.below hb1)).mono ?_);rintro e w2 ⟨rfl,hb2⟩)
     |(go_at_call 80;(with_reducible refine(BH B _ b _ _ ((H.out.below hb1).below hb2)).mono ?_);rintro e w3 ⟨rfl,h3,k3⟩))
    go_ret;exact⟨n,rfl,fun m hm=>Option.some.inj hm,h3,(BS.of (bel hb1 hb2)).trans k3⟩
   .have e1:((A6 (Lib.itoa n)).toList==T.toList)=false:=by rw[hsof,hst];simpa using he
    have e2:Af (bs T)=none:=Bf fun m hm=>by
     have:=Ip hn hm;subst this;exact he (hask.1 hm).2
    rw[e2];clear he hsof hst hask hn hbd e2 hL h;go_enter func119,ntmps119;go_wp2_with(first
     |(go_at_call 140;(with_reducible refine K1.out.mono ?_);rintro e w1 ⟨rfl,hb1⟩)
     |(go_at_call 69;(with_reducible refine(K2.out _ (HL.out.below hb1)).mono ?_);rintro e w2 ⟨rfl,hb2⟩)
     |(go_at_call 80;(with_reducible refine(BH B _ b _ _ ((H.out.below hb1).below hb2)).mono ?_);rintro e w3 ⟨rfl,h3,k3⟩))
    go_ret;exact⟨n,rfl,fun m hm=>(nomatch hm),h3,(BS.of (bel hb1 hb2)).trans k3⟩
  .have e2:Af (bs T)=none:=Bf fun m hm=>by
    have:=Ip hn hm;subst this;exact h0 (hask.1 hm).1
   rw[e2];by_cases h1:0<=n
   .have h2:¬n<=2147483647:=fun q=>h0 ⟨h1,q⟩;exact XL
   .exact XL
 .have hno:∀n,Lib.atoiAll (bs T)≠ .ok n:=fun n e=>hA ⟨n,e⟩;have K1:=A3 (NL T hT hno w hL);have H:=A3 h;rw[PY hno];clear hno hA hL h;go_enter func119,ntmps119;go_wp2_with(first
   |(go_at_call 140;(with_reducible refine K1.out.mono ?_);rintro e w1 ⟨x,N,rfl,hb1⟩)
   |(go_at_call 80;(with_reducible refine(BH B _ b _ _ (H.out.below hb1)).mono ?_);rintro e w3 ⟨rfl,h3,k3⟩))
  go_ret;exact⟨x,rfl,fun m hm=>(nomatch hm),h3,(BS.of hb1).trans k3⟩
theorem Dq(B:Nat)(ws:List Bs)(b:Bool)(w:World)(hL:BL w)(h:CD B ws b w)(hE:∀v,BS B w v->BL v):
 Calls prog 79 #[.pointer (some ⟨B,0,none⟩)] w (RO B w .i64 (Ab ws).2 b (Af (Ab ws).1)):=by
 have K:=A3 (Cc B ws b w hL h);clear h hL;go_enter func79,ntmps79;go_wp2_with(first
  |(go_at_call 76;(with_reducible refine K.out.mono ?_);rintro e w1 ⟨U,rfl,hU,hU2,h1,k1⟩)
  |(go_at_call 119;(with_reducible refine(Hn B _ b U hU2 _ (hE _ k1) h1).mono ?_);rintro e w2 ⟨n,rfl,h2,h3,k2⟩))
 go_ret;rw[hU]at h2 h3;exact⟨n,rfl,h2,h3,k1.trans k2⟩
theorem Kz(B:Nat)(ws:List Bs)(b:Bool)(w:World)(hL:BL w)(h:CD B ws b w):
 Calls prog 82 #[.pointer (some ⟨B,0,none⟩)] w (RO B w .u32 (Ab ws).2 b (BI (Ab ws).1)):=by
 have K:=A3 (Cc B ws b w hL h);clear h hL;go_enter func82,ntmps82;go_wp2_with(first
  |(go_at_call 76;(with_reducible refine K.out.mono ?_);rintro e w1 ⟨U,rfl,hU,hU2,h1,k1⟩)
  |(go_at_call 120;(with_reducible refine(Qt U mL _).mono ?_);rintro e w2 ⟨rfl,rfl⟩)
  |(go_at_call 80;(with_reducible refine(BH B _ b _ _ h1).mono ?_);rintro e w2 ⟨rfl,h2,k2⟩))
 go_ret;have e1:U.data.toList=(Ab ws).1:=hU;rw[e1]at h2 |-;refine⟨_,rfl,?_,?_,k1.trans k2⟩
 .intro m hm;unfold BI at hm;split at hm
  .exact Option.some.inj hm
  .cases hm
 .have e2:(BI (Ab ws).1).isSome=B8 (Ab ws).1:=by unfold BI;cases B8 (Ab ws).1<;>rfl
  rw[e2];exact h2

def BF(E:Nat)(w:World):Prop:=∃w0:World,w0.heap.size=E/\BL w0/\Below E w0 w
theorem BF.laid{E:Nat}{w:World}(h:BF E w):BL w:=by
 obtain⟨w0,rfl,h1,h2⟩:=h;exact h1.below h2
theorem BF.below{E:Nat}{w w':World}(h:BF E w)(k:Below E w w'):BF E w':=by
 obtain⟨w0,h0,h1,h2⟩:=h;exact⟨w0,h0,h1,h2.trans k⟩
theorem BF.le{E:Nat}{w:World}(h:BF E w):E<=w.heap.size:=by
 obtain⟨w0,rfl,h1,h2⟩:=h;exact h2.size
theorem BF.ofB{E B:Nat}{w w':World}(h:BF E w)(hE:E<=B)(k:BS B w w'):BF E w':=h.below (k.bel E hE h.le)
theorem BF.start{w:World}(h:BL w):BF w.heap.size w:=⟨w,rfl,h,BY _⟩
theorem RY(s:ByteArray)(hz:s.size=0)(w:World):
 Calls prog 123 #[.string s,.string ⟨#[114]⟩] w fun e w'=>e=.returned (.tuple #[.string s,.bool false])/\w'=w:=by
 exact WR
theorem JI(s:ByteArray)(M:Nat)(hM:s.size=M+1)(hs:M<=4194304)(d:Bool)(hd:((s.extract 0 1).toList==[114])=d)(w:World):
 Calls prog 123 #[.string s,.string ⟨#[114]⟩] w fun e w'=>e=.returned (.tuple #[.string (if d then s.extract 1 (M+1)else s),.bool d])/\w'=w:=by
 cases d with
 |true=>
  exact WR
 |false=>
  exact WR
theorem G9(s:ByteArray)(a b:Nat):bs (s.extract a b)=((bs s).drop a).take (b-a):=by
 unfold bs;simp[ByteArray.data_extract,Array.toList_extract,List.extract_eq_take_drop]
theorem Mo(s:ByteArray)(M:Nat)(hM:s.size=M+1):∃c r,bs s=c::r/\(s.extract 0 1).toList=[c]/\bs (s.extract 1 (M+1))=r:=by
 have hl:(bs s).length=M+1:=by rw[A9,hM]
 cases hb:bs s with
 |nil=>rw[hb]at hl;simp at hl
 |cons c r=>
  refine⟨c,r,rfl,?_,?_⟩
  .rw[ByteArray.toList_eq];show bs (s.extract 0 1)=_;rw[G9,hb];rfl
  .rw[G9,hb];rw[hb]at hl;simp only[List.drop_succ_cons,List.drop_zero];exact List.take_of_length_le (by simp at hl;omega)
theorem Qy{c:UInt8}{r:Bs}(h:c≠114):FB (c::r)=none:=Bf fun n hn=>h (List.cons.inj (LU.1 hn).2).1
theorem RE(E B:Nat)(ws:List Bs)(b:Bool)(w:World)(hL:BF E w)(hE:E<=B)(h:CD B ws b w):
 Calls prog 84 #[.pointer (some ⟨B,0,none⟩)] w (RO B w .i64 (Ab ws).2 b (FB (Ab ws).1)):=by
 have K:=A3 (Cc B ws b w hL.laid h);have HL:=A3 hL;have HC:Hid (∀U:ByteArray,bs U=(Ab ws).1->U.size<=4194304->∀v,∃ (d:Bool) (V:ByteArray),V.size<=4194304/\(FB (Ab ws).1=if d then Af (bs V)else none)/\Calls prog 123 #[.string U,.string ⟨#[114]⟩] v fun e w'=>e=.returned (.tuple #[.string V,.bool d])/\w'=v):=fun U h1 h2 v=>by
  rw[<-h1];rcases Nat.eq_zero_or_pos U.size with hz|hp
  .refine⟨false,U,h2,?_,RY U hz v⟩;have:bs U=[]:=List.length_eq_zero_iff.1 (by rw[A9,hz]);rw[this];rfl
  .obtain⟨M,hM⟩:∃M,U.size=M+1:=⟨U.size-1,oM⟩
   obtain⟨c,r,e1,e2,e3⟩:=Mo U M hM;by_cases hc:c=114
   .subst hc;have k:=JI U M hM oM true (by rw[e2];rfl) v;rw[if_pos rfl]at k;refine⟨true,_,?_,?_,k⟩
    .rw[<-A9,e3];have:=A9 U;rw[e1]at this;simp at this;omega
    .rw[e1,e3];rfl
   .have k:=JI U M hM oM false (by rw[e2];simpa using hc) v;rw[if_neg dE]at k;exact⟨false,U,h2,by rw[e1,Qy hc];rfl,k⟩
 clear h hL;go_enter func84,ntmps84;go_wp2_with(first
  |(go_at_call 76;(with_reducible refine K.out.mono ?_);rintro e w1 ⟨U,rfl,hU,hU2,h1,k1⟩;obtain⟨d,V,hV,hrg,kc⟩:=HC.out U hU hU2 w1)
  |(go_at_call 123;(with_reducible refine kc.mono ?_);rintro e w1' ⟨rfl,rfl⟩)
  |(go_at_call 80;(with_reducible refine(BH B _ b _ _ h1).mono ?_);rintro e w2 ⟨rfl,h2,k2⟩)
  |(go_at_call 119;(with_reducible refine(Hn B _ _ V hV _ ((HL.out.ofB hE k1).ofB hE k2).laid h2).mono ?_);rintro e w3 ⟨n,rfl,h3,h4,k3⟩))
 go_ret;rw[hrg];cases d with
 |true=>
  refine⟨n,rfl,?_,?_,(k1.trans k2).trans k3⟩
  .intro m hm;rw[if_pos rfl]at hm;exact h3 m hm
  .rw[if_pos rfl];have:(b|| !true)=b:=by cases b<;>rfl
   rw[this]at h4;exact h4
 |false=>
  refine⟨n,rfl,?_,?_,(k1.trans k2).trans k3⟩
  .intro m hm;rw[if_neg dE]at hm;cases hm
  .rw[if_neg dE];have:(b|| !false|| !(Af (bs V)).isSome)=(b|| !(none:Option Int).isSome):=by cases b<;>rfl
   rw[this]at h4;exact h4
theorem Al{w:World}{B B':Nat}{t t':TypeId}{k k' n n':Nat}{v v':Value}{xs xs':List Value}(h:w.ownsRow B t k v n xs)(h':w.ownsRow B' t' k' v' n' xs')(ht:t≠t'):∀b,v.ownBlock=some b->v'.ownBlock≠some b:=by
 intro b hb hb';rcases h.2 with⟨rfl,_⟩|⟨g,cap,cur,rfl,_,hg,_⟩
 .exact absurd (show(none:Option Nat)=some b from hb) sM
 rcases h'.2 with⟨rfl,_⟩|⟨g',cap',cur',rfl,_,hg',_⟩
 .exact absurd (show(none:Option Nat)=some b from hb') sM
 have e1:g=b:=Option.some.inj hb;have e2:g'=b:=Option.some.inj hb';rw[e1]at hg;rw[e2,hg]at hg';simp only[Option.some.injEq,Obj.cells.injEq]at hg';exact ht hg'.2.1
structure BW(W:World)(a0 a1 a2 a3:Value)(D:Nat)(u0 u1 u2 u3:Value)(v:World):Prop where
 bel:Below W.heap.size W v
 c:Aq v W.heap.size 0 [a0,a1,a2,a3]
 d:v.rowIs D 27 4 (f4 u0 u1 u2 u3)
 hD:W.heap.size<D

def As(L:List Bs):Nat->Bs->Option Nat
 |0,_=>none
 |k+1,s=>if s=(L[k]?).getD []/\s≠[] then some k else As L k s
theorem RV{a b:ByteArray}(h:bs a=bs b):a=b:=by
 cases a;cases b
 simpa[bs]using h
theorem PQ{L:List Bs}{k:Nat}{T:ByteArray}(hT:bs T=(L[k]?).getD [])(hn:bs T≠[]):
 Tv (fun j=>(As L k (bs j)).map fun x=>Value.int .i64 (x:Int)) T (.int .i64 (k:Int))=fun j=>(As L (k+1) (bs j)).map fun x=>Value.int .i64 (x:Int):=by
 funext j;unfold Tv;by_cases h:j=T
 .subst h;rw[if_pos rfl,As,if_pos ⟨hT,hn⟩];rfl
 .rw[if_neg h,As,if_neg (fun q=>h (RV (q.1.trans hT.symm)))]
theorem Oh{L:List Bs}{k:Nat}(hT:(L[k]?).getD []=[]):As L (k+1)=As L k:=by
 funext s;rw[As,if_neg (fun q=>q.2 (q.1.trans hT))]
theorem Ec(p:Nat)(L:List Bs)(hl:L.length<=1000)(hs:∀x∈L,x.length<=100)(w:World)(hr:w.rowIs p 9 L.length (fun i=>.string (A6 ((L[i]?).getD [])))):
 Calls prog 21 #[.slice (some ⟨p,0,none⟩) L.length L.length] w fun e w'=>∃C,e=.returned (.map (some C))/\w.heap.size<=C/\BN w' C (As L L.length)/\Below w.heap.size w w':=by
 obtain⟨N,hN⟩:∃n,L.length=n:=⟨_,rfl⟩
 rw[hN]at hr |-;have HL:=A3 (And.intro hN (And.intro hl hs));have HR:=A3 hr;obtain⟨W,hW⟩:=gA (w.alloc (.map #[] 0))
 have HB0:Hid (Below w.heap.size w W):=by rw[<-hW];exact A2 _ _
 have HM0:Hid (D6 W w.heap.size 0 (fun _=>none)):=by rw[<-hW];exact D6.new w
 clear hr hN hl hs;have hmm:=@run_makeMap prog;go_enter func21,ntmps21;go_upto_block 0 with fail;go_wp2_with fail
 go_loopw [9] (fun iv wx=>∃k n:Nat,k<=N/\n<=k/\iv=.int .i64 (k:Int)/\Hid (D6 wx w.heap.size n (fun j=>(As L k (bs j)).map fun x=>Value.int .i64 (x:Int))/\Below w.heap.size w wx)) (fun iv _=>N-(intOf iv).toNat)
 case atStart=>exact⟨0,0,gJ _,gF _,rfl,HM0.out,HB0.out⟩
 case round=>
  clear hW;obtain⟨k,n,hk,hn,rfl,HM⟩:=hrel;by_cases hlt:k<N
  .have e1:(k:Int)<(N:Int):=oM;obtain⟨T,hT⟩:=gA (A6 ((L[k]?).getD []))
   have hbT:bs T=(L[k]?).getD []:=by rw[<-hT];exact AZ _
   have hcell:=kc HM.2 (HR.cell (i:=k) hlt);rw[hT]at hcell;have hN1:N<=1000:=by have:=HL.2.1;have:=HL.1;omega
   have wk:IntKind.i64.wrap ((k:Int)+1)=((k+1:Nat):Int):=by rw[IntKind.wrap_i64];omega
   have i1:(0:Int)<=(k:Int):=oM;have hkl:k<L.length:=by rw[HL.1];exact hlt
   have hTs:T.size<=maxLen:=by
    rw[<-A9,hbT,gB hkl];have:=HL.2.2 _ (gD hkl);unfold maxLen;simp only[Option.getD_some];omega
   have HTT:=A3 (And.intro hbT hkl);have htl:T.toList=bs T:=ByteArray.toList_eq T;by_cases hz:bs T=[]
   .have e2:(T.toList==[])=true:=by rw[htl,hz];rfl
    have HZ:=A3 hz;clear hbT hT hTs hkl htl hz;go_wp2_with fail;go_roundw
    case rel=>exact⟨k+1,n,hlt,oM,gN,by rw[Oh (HTT.1.symm.trans HZ.out)];exact HM.1,HM.2⟩
    case measure=>simp[intOf];omega
   .have e2:(T.toList==[])=false:=by rw[htl];simpa using hz
    obtain⟨w3,hrun,hm3,hg3⟩:=HM.1.put mL underlying46 hTs (.int .i64 (k:Int));rw[PQ hbT hz]at hm3;have HM3:=A3 hm3;have HB3:Hid (Below w.heap.size w w3):=HM.2.trans ⟨hg3.os,hg3.tape,hg3.output,hg3.size,fun j hj=>hg3.block j (Nat.lt_of_lt_of_le hj HM.2.size) (fun q=>by have:=Option.some.inj q;omega)⟩;clear hbT hT hTs hkl htl hz hm3 hg3;go_wp2_with fail;go_roundw
    case rel=>exact⟨k+1,n+1,hlt,oM,gN,HM3.out,HB3.out⟩
    case measure=>simp[intOf];omega
  .have e1:¬ (k:Int)<(N:Int):=oM;have hkN:k=N:=oM;subst hkN;go_wp2_with fail;go_ret;exact⟨_,rfl,gF _,⟨n,HM.1⟩,HM.2⟩
structure Lt where
 a:Int
 b:Int
 c:Int
 d:Int
 e:Int
def CF(op:Int):Lt:=
 if op=1 then⟨110,45,45,45,45⟩
 else if op=2 then⟨119,45,45,45,105⟩
 else if op=3 then⟨97,99,45,45,45⟩
 else if 4<=op/\op<=10 then⟨100,120,120,45,45⟩
 else if 11<=op/\op<=14 then⟨100,120,45,45,45⟩
 else if op=15 then⟨100,120,120,120,45⟩
 else if op=16 then⟨110,110,119,45,45⟩
 else if op=17 then⟨110,119,45,45,45⟩
 else if op=18 then⟨119,110,45,45,45⟩
 else if 19<=op/\op<=20 then⟨110,118,45,45,45⟩
 else if op=21\/op=25 then⟨119,119,45,45,45⟩
 else if op=26 then⟨119,119,119,119,45⟩
 else if 22<=op/\op<=28 then⟨119,119,119,45,45⟩
 else if 29<=op/\op<=30 then⟨118,45,45,45,112⟩
 else if op=31 then⟨45,118,45,45,112⟩
 else if op=32 then⟨97,45,45,45,115⟩
 else if op=33 then⟨45,97,45,45,115⟩
 else if op=34 then⟨45,119,45,45,45⟩
 else if op=36 then⟨45,45,45,45,113⟩
 else⟨45,45,45,45,45⟩
def dR(rs:List Ty)(l D:Int):Ty:=if l=45 then⟨0,0⟩else Au rs D
def tR(rs:List Ty)(l0 l1 D A:Int):Ty:=if l0=45/\l1≠45 then Au rs A else dR rs l0 D
def Cp(c:Cd)(l n:Int)(t:Ty):Bool:=
 if l=105 then wholeB n
 else if l=112 then n==0||(n==1&&Dh c.sign t.par==2)
 else if l=115 then Am n c.slots.length&&decide (El c.slots n=t)
 else if l=113 then Am n c.sign.length
 else n==0
def D7(c:Cd)(i:Ax)(L:Lt):Bool:=
 (i.op==1||i.bits==0)&&(C3 i.bits&&(Ak c.regs L.a i.d ⟨0,0⟩&&(Ak c.regs L.b i.a (dR c.regs L.a i.d)&&(Ak c.regs L.c i.b (dR c.regs L.a i.d)&&(Ak c.regs L.d i.c (dR c.regs L.a i.d)&&Cp c L.e i.n (tR c.regs L.a L.b i.d i.a))))))
theorem MI{c:Cd}(h:Ap c=true){n:Int}(hp:Am n c.regs.length=true):AG (Au c.regs n) c.sign.length=true:=by
 obtain⟨k,rfl,hk⟩:=CZ hp;rw[DF rfl hk];unfold Ap at h;exact List.all_eq_true.1 h _ (gD hk)
theorem MJ{c:Cd}(h:Ap c=true){n:Int}(hp:Am n c.regs.length=true)(hk:(Au c.regs n).kind=1):(Au c.regs n).par=0:=by
 have:=MI h hp;unfold AG at this;rw[if_pos (.inl hk)]at this;simpa using this
theorem Xl{c:Cd}(h:Ap c=true){n m:Int}(hn:Am n c.regs.length=true)(hm:Am m c.regs.length=true)(hk:((Au c.regs m).kind==1||(Au c.regs m).kind==3)=true):
 ((Au c.regs n).kind==1||decide (Au c.regs n=Au c.regs m))=(decide (Au c.regs n=Au c.regs m)||((Au c.regs n).kind==1&&(Au c.regs m).kind==3)):=by
 have h1:=MJ h hn;have h2:=MJ h hm;generalize Au c.regs n=t at *;generalize Au c.regs m=d at *;obtain⟨K,P⟩:=t;obtain⟨A,B⟩:=d;simp only at h1 h2 hk |-;rw[Bool.eq_iff_iff];simp only[Bool.or_eq_true,beq_iff_eq,decide_eq_true_eq,Bool.and_eq_true,Ty.mk.injEq]at hk |-;constructor
 .rintro(e|e)
  .rcases hk with k|k
   .exact .inl ⟨oM,by rw[h1 e,h2 k]⟩
   .exact .inr ⟨e,k⟩
  .exact .inl e
 .rintro(e|e)
  .exact .inr e
  .exact .inl e.1
theorem VK:C3 0=true:=dE
theorem Do(rs:List Ty)(n:Int)(d:Ty):Ak rs 45 n d=(n==0):=if_pos rfl
theorem Dt(rs:List Ty)(n:Int)(d:Ty):Ae rs 0 n d=(n==0):=if_pos rfl
theorem By{l:Int}(h:l≠0)(rs:List Ty)(n:Int)(d:Ty):Ae rs l n d=(Am n rs.length&&Ed l (Au rs n) d):=if_neg h
theorem Bt{l:Int}(h:l≠45)(rs:List Ty)(n:Int)(d:Ty):Ak rs l n d=(Am n rs.length&&EB l (Au rs n) d):=if_neg h
theorem FR(rs:List Ty)(n:Int)(d m:Ty):Ak rs 110 n d=Ae rs 1 n m:=by rw[Bt dE,By dE];rfl
theorem Ck(rs:List Ty)(n:Int)(d m:Ty):Ak rs 119 n d=Ae rs 2 n m:=by rw[Bt dE,By dE];rfl
theorem LA(rs:List Ty)(n:Int)(d m:Ty):Ak rs 118 n d=Ae rs 3 n m:=by rw[Bt dE,By dE];rfl
theorem Lz(rs:List Ty)(n:Int)(d m:Ty):Ak rs 100 n d=Ae rs 4 n m:=by rw[Bt dE,By dE];rfl
theorem Ar(rs:List Ty)(n:Int)(d m:Ty):Ak rs 45 n d=Ae rs 0 n m:=by rw[Do,Dt]
theorem Ly(rs:List Ty)(n:Int)(d:Ty):Ak rs 97 n d=Ae rs 6 n (Au rs n):=by rw[Bt dE,By dE];simp[EB,Ed]
theorem UA(rs:List Ty)(n:Int)(d:Ty):Ak rs 99 n d=Ae rs 5 n d:=by rw[Bt dE,By dE];simp[EB,Ed]
theorem UB{c:Cd}(h:Ap c=true)(n:Int){m:Int}(hd:Ae c.regs 4 m (Au c.regs m)=true):Ak c.regs 120 n (Au c.regs m)=Ae c.regs 5 n (Au c.regs m):=by
 rw[Bt dE,By dE];rw[By dE]at hd;simp only[Bool.and_eq_true]at hd;cases hn:Am n c.regs.length
 .rfl
 .rw[Bool.true_and,Bool.true_and];exact Xl h hn hd.1 hd.2
theorem AX{c:Cd}{i:Ax}{L:Lt}{R:Rw}(h1:i.op≠1)(h7:R.n≠7)(ha:Ak c.regs L.a i.d ⟨0,0⟩=Ae c.regs R.d i.d (AF c.regs i R))
 (hb:Ae c.regs R.d i.d (AF c.regs i R)=true->Ak c.regs L.b i.a (dR c.regs L.a i.d)=Ae c.regs R.a i.a (AF c.regs i R))
 (hc:Ae c.regs R.d i.d (AF c.regs i R)=true->Ak c.regs L.c i.b (dR c.regs L.a i.d)=Ae c.regs R.b i.b (AF c.regs i R))
 (hd:Ae c.regs R.d i.d (AF c.regs i R)=true->Ak c.regs L.d i.c (dR c.regs L.a i.d)=Ae c.regs R.c i.c (AF c.regs i R))
 (he:Cp c L.e i.n (tR c.regs L.a L.b i.d i.a)=I9 c i.n R.n (AF c.regs i R)):D7 c i L=Bm c i R:=by
 unfold D7 Bm BO;rw[if_neg h7,ha,he];have:(i.op==1)=false:=by simpa using h1
 rw[this,Bool.false_or];cases hX:Ae c.regs R.d i.d (AF c.regs i R)
 .simp
 .rw[hb hX,hc hX,hd hX];cases hb:(i.bits==0)
  .simp
  .have:i.bits=0:=by simpa using hb
   rw[this,VK];simp
theorem JM{c:Cd}(h:Ap c=true)(i:Ax):D7 c i (CF i.op)=Bm c i (A5 i.op):=by
 have x:=fun n=>@UB c h n i.d;by_cases h1:i.op=1
 .have e1:CF i.op=⟨110,45,45,45,45⟩:=by rw[h1];rfl
  have e2:A5 i.op=⟨1,0,0,0,7⟩:=by rw[h1];rfl
  rw[e1,e2];unfold D7 Bm BO;simp only;rw[h1,FR _ _ _ (AF c.regs i ⟨1,0,0,0,7⟩),Do,Do,Do,Dt,Dt,Dt];rw[show Cp c 45 i.n (tR c.regs 110 45 i.d i.a)=(i.n==0)from rfl];generalize Ae c.regs 1 i.d _=A1;cases A1<;>cases C3 i.bits<;>simp
 unfold CF A5;rw[if_neg h1,if_neg h1];by_cases h2:i.op=2
 .rw[if_pos h2,if_pos h2];exact AX h1 dE (Ck _ _ _ _) (fun _=>Ar _ _ _ _) (fun _=>Ar _ _ _ _) (fun _=>Ar _ _ _ _) rfl
 rw[if_neg h2,if_neg h2];by_cases h3:i.op=3
 .rw[if_pos h3,if_pos h3];exact AX h1 dE (Ly _ _ _) (fun _=>UA _ _ _) (fun _=>Ar _ _ _ _) (fun _=>Ar _ _ _ _) rfl
 rw[if_neg h3,if_neg h3];by_cases h4:4<=i.op/\i.op<=10
 .rw[if_pos h4,if_pos h4];exact AX h1 dE (Lz _ _ _ _) (x _) (x _) (fun _=>Ar _ _ _ _) rfl
 rw[if_neg h4,if_neg h4];by_cases h5:11<=i.op/\i.op<=14
 .rw[if_pos h5,if_pos h5];exact AX h1 dE (Lz _ _ _ _) (x _) (fun _=>Ar _ _ _ _) (fun _=>Ar _ _ _ _) rfl
 rw[if_neg h5,if_neg h5];by_cases h6:i.op=15
 .rw[if_pos h6,if_pos h6];exact AX h1 dE (Lz _ _ _ _) (x _) (x _) (x _) rfl
 rw[if_neg h6,if_neg h6];by_cases h7:i.op=16
 .rw[if_pos h7,if_pos h7];exact AX h1 dE (FR _ _ _ _) (fun _=>FR _ _ _ _) (fun _=>Ck _ _ _ _) (fun _=>Ar _ _ _ _) rfl
 rw[if_neg h7,if_neg h7];by_cases h8:i.op=17
 .rw[if_pos h8,if_pos h8];exact AX h1 dE (FR _ _ _ _) (fun _=>Ck _ _ _ _) (fun _=>Ar _ _ _ _) (fun _=>Ar _ _ _ _) rfl
 rw[if_neg h8,if_neg h8];by_cases h9:i.op=18
 .rw[if_pos h9,if_pos h9];exact AX h1 dE (Ck _ _ _ _) (fun _=>FR _ _ _ _) (fun _=>Ar _ _ _ _) (fun _=>Ar _ _ _ _) rfl
 rw[if_neg h9,if_neg h9];by_cases h10:19<=i.op/\i.op<=20
 .rw[if_pos h10,if_pos h10];exact AX h1 dE (FR _ _ _ _) (fun _=>LA _ _ _ _) (fun _=>Ar _ _ _ _) (fun _=>Ar _ _ _ _) rfl
 rw[if_neg h10,if_neg h10];by_cases h11:i.op=21\/i.op=25
 .rw[if_pos h11,if_pos h11];exact AX h1 dE (Ck _ _ _ _) (fun _=>Ck _ _ _ _) (fun _=>Ar _ _ _ _) (fun _=>Ar _ _ _ _) rfl
 rw[if_neg h11,if_neg h11];by_cases h12:i.op=26
 .rw[if_pos h12,if_pos h12];exact AX h1 dE (Ck _ _ _ _) (fun _=>Ck _ _ _ _) (fun _=>Ck _ _ _ _) (fun _=>Ck _ _ _ _) rfl
 rw[if_neg h12,if_neg h12];by_cases h13:22<=i.op/\i.op<=28
 .rw[if_pos h13,if_pos h13];exact AX h1 dE (Ck _ _ _ _) (fun _=>Ck _ _ _ _) (fun _=>Ck _ _ _ _) (fun _=>Ar _ _ _ _) rfl
 rw[if_neg h13,if_neg h13];by_cases h14:29<=i.op/\i.op<=30
 .rw[if_pos h14,if_pos h14];exact AX h1 dE (LA _ _ _ _) (fun _=>Ar _ _ _ _) (fun _=>Ar _ _ _ _) (fun _=>Ar _ _ _ _) rfl
 rw[if_neg h14,if_neg h14];by_cases h15:i.op=31
 .rw[if_pos h15,if_pos h15];exact AX h1 dE (Ar _ _ _ _) (fun _=>LA _ _ _ _) (fun _=>Ar _ _ _ _) (fun _=>Ar _ _ _ _) rfl
 rw[if_neg h15,if_neg h15];by_cases h16:i.op=32
 .rw[if_pos h16,if_pos h16];exact AX h1 dE (Ly _ _ _) (fun _=>Ar _ _ _ _) (fun _=>Ar _ _ _ _) (fun _=>Ar _ _ _ _) rfl
 rw[if_neg h16,if_neg h16];by_cases h17:i.op=33
 .rw[if_pos h17,if_pos h17];exact AX h1 dE (Ar _ _ _ _) (fun _=>Ly _ _ _) (fun _=>Ar _ _ _ _) (fun _=>Ar _ _ _ _) rfl
 rw[if_neg h17,if_neg h17];by_cases h18:i.op=34
 .rw[if_pos h18,if_pos h18];exact AX h1 dE (Ar _ _ _ _) (fun _=>Ck _ _ _ _) (fun _=>Ar _ _ _ _) (fun _=>Ar _ _ _ _) rfl
 rw[if_neg h18,if_neg h18];by_cases h19:i.op=36
 .rw[if_pos h19,if_pos h19];exact Yi
 rw[if_neg h19,if_neg h19];exact Yi

theorem D1(L:List Bs)(w:World)(cs:Array Value)(t:TypeId)(h:cs.toList=L.map fun x=>.string (A6 x)):(w.alloc (.cells cs t)).rowIs w.heap.size t L.length (fun i=>.string (A6 ((L[i]?).getD []))):=by
 have hs:cs.size=L.length:=by rw[<-Array.length_toList,h,List.length_map]
 rw[<-hs];refine World.rowIs_alloc w cs t _ fun i hi=>?_;have hl:i<L.length:=by rw[<-hs];exact hi
 rw[<-Array.getElem?_toList,h,List.getElem?_map,gB hl];rfl
def Fv:List Bs:=[AN,BU,B7]
def CH:List Bs:=[[],Cb,AE]
def CC:List Bs:=[[],Bp,BV,AW]
def Co:List Bs:=[Av,At]
theorem EM(w:World):Calls prog 22 #[] w fun e w'=>∃p,e=.returned (.slice (some ⟨p,0,none⟩) 3 3)/\w.heap.size<=p/\w'.rowIs p 9 3 (fun i=>.string (A6 ((Fv[i]?).getD [])))/\Below w.heap.size w w':=by
 go_enter func22,ntmps22;go_wp2;go_ret;refine⟨_,rfl,?_,?_,?_⟩
 .simp
 .exact D1 Fv w _ _ rF
 .exact A2 _ _
theorem EI(w:World):Calls prog 23 #[] w fun e w'=>∃p,e=.returned (.slice (some ⟨p,0,none⟩) 3 3)/\w.heap.size<=p/\w'.rowIs p 9 3 (fun i=>.string (A6 ((CH[i]?).getD [])))/\Below w.heap.size w w':=by
 go_enter func23,ntmps23;go_wp2;go_ret;refine⟨_,rfl,?_,?_,?_⟩
 .simp
 .exact D1 CH w _ _ rF
 .exact A2 _ _
theorem EP(w:World):Calls prog 24 #[] w fun e w'=>∃p,e=.returned (.slice (some ⟨p,0,none⟩) 4 4)/\w.heap.size<=p/\w'.rowIs p 9 4 (fun i=>.string (A6 ((CC[i]?).getD [])))/\Below w.heap.size w w':=by
 go_enter func24,ntmps24;go_wp2;go_ret;refine⟨_,rfl,?_,?_,?_⟩
 .simp
 .exact D1 CC w _ _ rF
 .exact A2 _ _
theorem EH(w:World):Calls prog 25 #[] w fun e w'=>∃p,e=.returned (.slice (some ⟨p,0,none⟩) 2 2)/\w.heap.size<=p/\w'.rowIs p 9 2 (fun i=>.string (A6 ((Co[i]?).getD [])))/\Below w.heap.size w w':=by
 go_enter func25,ntmps25;go_wp2;go_ret;refine⟨_,rfl,?_,?_,?_⟩
 .simp
 .exact D1 Co w _ _ rF
 .exact A2 _ _
theorem Gb(w:World):Calls prog 26 #[] w fun e w'=>∃p,e=.returned (.slice (some ⟨p,0,none⟩) 38 38)/\w.heap.size<=p/\w'.rowIs p 9 38 (fun i=>.string (A6 ((Dy[i]?).getD [])))/\Below w.heap.size w w':=by
 go_enter func26,ntmps26;go_wp2;go_ret;refine⟨_,rfl,?_,?_,?_⟩
 .simp
 .exact D1 Dy w _ _ rF
 .exact A2 _ _
def Ks(s:Wk)(op:Int):Bool:=if op=34\/op=36 then decide (s.opens.length<64)else if op=35 then decide (0<s.opens.length)&& !AP s else if op=37 then AP s else true
def JS(c:Cd)(s:Wk)(i:Ax):Bool:=AP s&&(i.op != 37&&EF c.regs (E0 i) != C9 s)
def CQ(s:Wk):Prop:=∀b∈s.opens,b.loop=true->0<=b.par
theorem CQ.inner{s:Wk}(h:CQ s)(hl:AP s=true):0<=C9 s:=by
 obtain⟨S,O⟩:=s;cases O with
 |nil=>exact Int.le_refl _
 |cons b r=>exact h b (List.mem_cons_self ..) hl
theorem G4{i:Ax}(h:C5 i.op=false):E0 i= -1:=by
 unfold C5 at h;simp only[Bool.or_eq_false_iff]at h;have h1:(i.op==29)=false/\(i.op==30)=false/\(i.op==31)=false/\(i.op==32)=false/\(i.op==33)=false:=by
  have:=h.1;simp only[Bool.and_eq_false_iff,decide_eq_false_iff_not]at this;simp only[beq_eq_false_iff_ne,ne_eq];omega
 unfold E0;rw[h.2,h1.1,h1.2.1,h1.2.2.1,h1.2.2.2.1,h1.2.2.2.2];rfl
theorem OY{i:Ax}(h:C5 i.op=true):E0 i=JT i (A5 i.op):=by
 unfold C5 E9 at h;simp only[Bool.or_eq_true,Bool.and_eq_true,decide_eq_true_eq]at h;obtain⟨op,D,A,B,E,n,bb⟩:=i;simp only at h |-;have:op=3\/op=4\/op=5\/op=6\/op=7\/op=8\/op=9\/op=10\/op=11\/op=12\/op=13\/op=14\/op=15\/op=29\/op=30\/op=31\/op=32\/op=33:=oM;rcases this with rfl|rfl|rfl|rfl|rfl|rfl|rfl|rfl|rfl|rfl|rfl|rfl|rfl|rfl|rfl|rfl|rfl|rfl<;>rfl
theorem G5(rs:List Ty):EF rs (-1)= -1:=by unfold EF Am;simp
theorem Tz{rs:List Ty}{n q:Int}(hq:0<=q):(EF rs n=q)↔Au rs n=⟨3,q⟩:=by
 unfold EF;cases h:Am n rs.length
 .have:Au rs n=⟨0,0⟩:=by unfold Au;rw[h];rfl
  rw[this];simp;omega
 .rw[Bool.true_and];generalize Au rs n=t;obtain⟨K,P⟩:=t;simp only[Ty.mk.injEq];by_cases hk:K=3
  .subst hk;simp
  .have:(K==3)=false:=by simpa using hk
   rw[this];constructor
   .intro e;simp at e;omega
   .intro e;exact absurd e.1 hk
theorem OS{c:Cd}{s:Wk}{i:Ax}(hO:CQ s):AO c s i (A5 i.op)=(!JS c s i&&Ks s i.op):=by
 have hO':=hO.inner;unfold AO JS Ks;by_cases h1:i.op=34\/i.op=36
 .rw[if_pos h1,if_pos h1];have hv:EF c.regs (E0 i)= -1:=by
   rw[G4 (by rcases h1 with e|e<;>rw[e]<;>decide),G5]
  have h37:(i.op != 37)=true:=by rcases h1 with e|e<;>rw[e]<;>decide
  rw[hv,h37];cases hl:AP s
  .rfl
  .have:=hO' hl;have e:((-1:Int) != C9 s)=true:=sO;rw[e];rfl
 .rw[if_neg h1,if_neg h1];by_cases h2:i.op=35
  .rw[if_pos h2,if_pos h2];have hv:EF c.regs (E0 i)= -1:=by rw[G4 (by rw[h2];decide),G5]
   rw[hv,h2];have hE:(!s.opens.isEmpty)=decide (0<s.opens.length):=by cases s.opens<;>simp
   rw[hE];cases hl:AP s
   .simp
   .have:=hO' hl;have e:((-1:Int) != C9 s)=true:=sO;rw[e];simp
  .rw[if_neg h2,if_neg h2];by_cases h3:i.op=37
   .rw[if_pos h3,if_pos h3,h3];cases AP s<;>rfl
   .rw[if_neg h3,if_neg h3];have h37:(i.op != 37)=true:=by simpa using h3
    rw[h37,Bool.true_and,Bool.and_true];cases hl:AP s
    .rfl
    .have hq:=hO' hl;rw[Bool.not_true,Bool.false_or,Bool.true_and];cases hlp:C5 i.op
     .rw[G4 hlp,G5];have e:((-1:Int) != C9 s)=true:=sO;rw[e];rfl
     .rw[OY hlp,Bool.true_and];unfold AF;rw[Bool.eq_iff_iff,decide_eq_true_eq,<-Tz hq];simp
theorem OV{c:Cd}{s:Wk}{i:Ax}(hT:Ap c=true)(hO:CQ s):Bd c s i=((AI i.op&&D7 c i (CF i.op))&&(!JS c s i&&(FU s i (A5 i.op)&&Ks s i.op))):=by
 unfold Bd;rw[JM hT,OS hO];cases AI i.op<;>cases Bm c i (A5 i.op)<;>cases JS c s i<;>cases Ks s i.op<;>simp
structure Ob where
 op:Int
 par:Int
 set:List Nat
def Uy(S:List Nat)(b:Bk):Ob:=⟨if b.loop then 36 else 34,b.par,S.take b.ahead⟩
def Hw(s:Wk):List Ob:=(s.opens.map (Uy s.set)).reverse
theorem Gz(s:Wk):(Hw s).length=s.opens.length:=by simp[Hw]
theorem Fh(S:List Nat)(b:Bk)(r:List Bk):Hw ⟨S,b::r⟩=(r.map (Uy S)).reverse++[Uy S b]:=by simp[Hw]
theorem Q4{s:Wk}(h:0<s.opens.length):∃X,(Hw s)[s.opens.length-1]? =some ⟨if AP s then 36 else 34,C9 s,X⟩:=by
 obtain⟨S,O⟩:=s;cases O with
 |nil=>simp at h
 |cons b r=>
  refine⟨S.take b.ahead,?_⟩;rw[Fh];simp only[List.length_cons,Nat.add_sub_cancel];rw[List.getElem?_append_right sM];simp only[List.length_reverse,List.length_map,Nat.sub_self];rfl
theorem Jr{s:Wk}{i:Ax}(h:i.op=34\/i.op=36):AM s i=⟨s.set,⟨i.op==36,i.n,s.set.length⟩::s.opens⟩:=by
 unfold AM GW;rw[Hz (by rcases h with h|h<;>rw[h]<;>rfl)];unfold Fw;rw[if_pos h]
theorem Js{s:Wk}{i:Ax}(h:i.op=35\/i.op=37):AM s i=B9 s:=by
 unfold AM GW;rw[Hz (by rcases h with h|h<;>rw[h]<;>rfl)];unfold Fw;rw[if_neg oM,if_pos h]
theorem Ew{s:Wk}{i:Ax}(h1:i.op≠34)(h2:i.op≠35)(h3:i.op≠36)(h4:i.op≠37):AM s i=⟨Gm s.set i,s.opens⟩:=by
 unfold AM GW Fw;rw[if_neg oM,if_neg oM];unfold Jz Gm;split<;>rfl
theorem Q5{s:Wk}{i:Ax}(h:i.op=34\/i.op=36):Hw (AM s i)=Hw s++[⟨i.op,i.n,s.set⟩]:=by
 rw[Jr h,Fh];unfold Hw Uy;simp only[List.take_length];rcases h with h|h<;>rw[h]<;>rfl
theorem Q6{s:Wk}{i:Ax}{n:Nat}(ho:Df n s)(h1:i.op≠34)(h2:i.op≠35)(h3:i.op≠36)(h4:i.op≠37):Hw (AM s i)=Hw s:=by
 rw[Ew h1 h2 h3 h4];unfold Hw;simp only;congr 1;apply List.map_congr_left;intro b hb;have:=Lw ho.opens b hb;have e:(Gm s.set i).take b.ahead=s.set.take b.ahead:=by
  unfold Gm;split
  .rw[List.take_append_of_le_length this]
  .rfl
 unfold Uy;rw[e]
theorem Et{s:Wk}{n:Nat}(ho:Df n s)(h:0<s.opens.length):Hw (B9 s)=(Hw s).take (s.opens.length-1):=by
 obtain⟨S,O⟩:=s;cases O with
 |nil=>simp at h
 |cons b r=>
  rw[Fh];simp only[List.length_cons,Nat.add_sub_cancel];rw[List.take_append_of_le_length sM,List.take_of_length_le sM];unfold Hw B9;simp only;cases hb:b.loop
  .simp only[Bool.false_eq_true,if_false];congr 1;apply List.map_congr_left;intro a ha;have:=Lw ho.opens.2 a ha;unfold Uy;rw[List.take_take,Nat.min_eq_left this]
  .simp only[if_true]
theorem Of{s:Wk}(hl:AP s=false){o:Ob}(h:(Hw s)[s.opens.length-1]? =some o)(h0:0<s.opens.length):(B9 s).set=o.set:=by
 obtain⟨S,O⟩:=s;cases O with
 |nil=>simp at h0
 |cons b r=>
  rw[Fh]at h;simp only[List.length_cons,Nat.add_sub_cancel]at h;rw[List.getElem?_append_right sM]at h;simp at h;subst h;have:b.loop=false:=hl;simp[B9,this,Uy]
theorem Lq{s:Wk}(hl:AP s=true):(B9 s).set=s.set:=by
 obtain⟨S,O⟩:=s;cases O with
 |nil=>rfl
 |cons b r=>
  have:b.loop=true:=hl;simp[B9,this]
theorem D8(s:Wk):(B9 s).opens.length=s.opens.length-1:=by
 obtain⟨S,O⟩:=s;cases O with
 |nil=>rfl
 |cons b r=>simp[B9]
theorem CQ.step{c:Cd}{s:Wk}{i:Ax}(h:CQ s)(t:Bd c s i=true):CQ (AM s i):=by
 by_cases h1:i.op=34\/i.op=36
 .rw[Jr h1];intro b hb hl;rcases List.mem_cons.1 hb with rfl|hb
  .have h36:i.op=36:=by simpa using hl
   obtain⟨_,h2,_,_⟩:=F7 t;rw[h36]at h2;unfold Bm BO at h2;simp only[Bool.and_eq_true]at h2;have h3:=h2.2.2.2.2;rw[if_neg (show(A5 36).n≠7 by decide)]at h3;simp only[Bool.and_eq_true]at h3;have h4:Am i.n c.sign.length=true:=h3.2;exact(Eb.1 h4).1
  .exact h b hb hl
 .by_cases h2:i.op=35\/i.op=37
  .rw[Js h2];intro b hb hl;refine h b ?_ hl;unfold B9 at hb;split at hb
   .rename_i e;rw[e];exact List.mem_cons_of_mem _ hb
   .exact hb
  .rw[Ew oM oM oM oM];exact h
theorem CQ.start:CQ ⟨[],[]⟩:=fun b hb=>by cases hb
def Cm(M:Nat)(X:List Nat):List Value:=(List.range M).map fun j=>.bool (decide (j∈X))
theorem Hc(M:Nat)(X:List Nat):(Cm M X).length=M:=by simp[Cm]
theorem Ft{M:Nat}{X:List Nat}{j:Nat}(h:j<M):(Cm M X)[j]? =some (.bool (decide (j∈X))):=by
 unfold Cm;rw[List.getElem?_map,List.getElem?_range h];rfl
theorem Ki(M:Nat):Cm M []=List.replicate M (.bool false):=by
 apply List.ext_getElem?;intro j;by_cases h:j<M
 .rw[Ft h,List.getElem?_replicate,if_pos h];simp
 .rw[List.getElem?_eq_none Wu,List.getElem?_eq_none sO]
theorem Rj{M:Nat}{X:List Nat}{i:Ax}(hd:(A5 i.op).d≠0)(hl:i.d.toNat<M):(Cm M X).set i.d.toNat (.bool true)=Cm M (Gm X i):=by
 apply List.ext_getElem?;intro j;by_cases h:j<M
 .rw[Ft h,List.getElem?_set];by_cases e:i.d.toNat=j
  .rw[if_pos e,if_pos Wu];have:j∈Gm X i:=MD.2 (.inr ⟨hd,e.symm⟩);simp[this]
  .rw[if_neg e,Ft h];have:j∈Gm X i↔j∈X:=by
    rw[MD];exact⟨fun q=>q.resolve_right fun q=>e q.2.symm,.inl⟩
   simp[this]
 .rw[List.getElem?_eq_none (by rw[List.length_set,Hc];omega),List.getElem?_eq_none Wu]
theorem OM{M:Nat}{X:List Nat}{i:Ax}(hd:(A5 i.op).d=0):Gm X i=X:=by unfold Gm;rw[if_neg (fun q=>q.1 hd)]
theorem Pg{B:Nat}{V:World}{p:Option Addr}{n q:Nat}{xs:List Value}(h:V.ownsRow B 4 1 (.slice p n q) n xs)(hB:B<=V.heap.size)(hn:n<=140737488351232):
 ∃g c' w',(Builtin.append_ #[75,75] 75 #[.slice p n q,.slice (some ⟨V.heap.size,0,none⟩) 1 1]).run prog (V.alloc (.cells #[.bool false] 4))=.ok (.slice (some ⟨g,0,none⟩) (n+1) c') w'/\Below B V w'/\w'.ownsRow B 4 1 (.slice (some ⟨g,0,none⟩) (n+1) c') (n+1) (xs++[.bool false]):=by
 obtain⟨i0,hi0,hz0,hz1,hz2⟩:=info_parts Es;have hb0:Below V.heap.size V (V.alloc (.cells #[.bool false] 4)):=A2 _ _;have hsz:(V.alloc (.cells #[.bool false] 4)).heap.size=V.heap.size+1:=sM;have h0:=Ag h hb0;obtain⟨g,cap,w3,hr,hown,hgrow,hat,hlt⟩:=run_append_lies (P:=prog) (V.alloc (.cells #[.bool false] 4)) 75 75 B 4 i0 _ 1 1 underlying75 hi0 hz0 hz1 hz2 rfl dE (.slice p n q) n xs h0 ⟨V.heap.size,0,none⟩ 1 1 [.bool false] rfl
  (World.news_of_block (cs:=#[.bool false]) (t:=4) (fr:=(0,0)) (heap_alloc_new V _)) Ny dE mL oM sO _ rfl
 exact⟨g,cap,w3,hr,(hb0.mono hB).grown hgrow oM (fun q e=>(h0.lt q e).1),hown⟩
def Sr(o:Ob)(u:Value):List Value:=[.int .i64 o.op,.int .i64 o.par,u]
def EZ:List Ob->List Value->List Value
 |o::l,u::us=>Sr o u++EZ l us
 |_,_=>[]
theorem Iq(o:Ob)(u:Value):∀ {l:List Ob} {us:List Value},l.length=us.length->EZ (l++[o]) (us++[u])=EZ l us++Sr o u
 |[],[],_=>by simp[EZ]
 |[],_::_,h=>by simp at h
 |_::_,[],h=>by simp at h
 |a::l,b::us,h=>by simp only[List.cons_append,EZ];rw[Iq o u U6,List.append_assoc]
theorem FP:∀ (m:Nat) (l:List Ob) (us:List Value),(EZ l us).take (m*3)=EZ (l.take m) (us.take m)
 |0,l,us=>by simp[EZ]
 |m+1,[],us=>by simp[EZ]
 |m+1,a::l,[]=>by simp[EZ]
 |m+1,a::l,b::us=>by
  simp only[List.take_succ_cons,EZ];rw[show(m+1)*3=(Sr a b).length+m*3 by simp[Sr];omega,List.take_length_add_append,FP m l us]
theorem ML(j:Nat)(hj:j<3):∀ {l:List Ob} {us:List Value} {k:Nat} {o:Ob} {u:Value},l[k]? =some o->us[k]? =some u->(EZ l us)[k*3+j]? =(Sr o u)[j]?
 |[],us,k,o,u,h,_=>by simp at h
 |a::l,[],k,o,u,_,h=>by simp at h
 |a::l,b::us,0,o,u,h,h'=>by
  simp at h h';subst h h';simp only[EZ];rw[Nat.zero_mul,Nat.zero_add,List.getElem?_append_left (by simpa[Sr]using hj)]
 |a::l,b::us,k+1,o,u,h,h'=>by
  simp only[EZ];rw[List.getElem?_append_right (by simp[Sr];omega)];have e:(k+1)*3+j-(Sr a b).length=k*3+j:=by simp[Sr];omega
  rw[e];exact ML j hj U6 (by simpa using h')
theorem O4:(prog.info? 97).map (fun i=>(i.zero,i.size,i.bytes))=some (some (.agg #[.int .i64 0,.int .i64 0,.slice none 0 0]),3,40):=kR
structure SK(B M:Nat)(v:World)(sv ov:Value)(s:Wk)(us:List Value):Prop where
 hB:B<=v.heap.size
 set:v.ownsRow B 4 1 sv M (Cm M s.set)
 opn:v.ownsRow B 97 3 ov s.opens.length (EZ (Hw s) us)
 len:us.length=s.opens.length
 each:∀k (h:k<us.length) o,(Hw s)[k]? =some o->v.ownsRow B 4 1 us[k] M (Cm M o.set)/\∀b,sv.ownBlock=some b->us[k].ownBlock≠some b
section
variable {B M : Nat} {v v' : World} {sv ov : Value} {s : Wk} {us : List Value}
theorem SK.below(h:SK B M v sv ov s us)(k:Below v.heap.size v v'):SK B M v' sv ov s us:=
 ⟨gH h.hB k.size,Ag h.set k,Ag h.opn k,h.len,fun j hj o ho=>⟨Ag (h.each j hj o ho).1 k,(h.each j hj o ho).2⟩⟩
theorem Fy:97≠4:=dE
theorem SK.ins{i:Ax}{g q n:Nat}(h:SK B M v (.slice (some ⟨g,0,none⟩) M q) ov s us)(ok:Df n s)(h1:i.op≠34)(h2:i.op≠35)(h3:i.op≠36)(h4:i.op≠37)(hd:(A5 i.op).d≠0)(hl:i.d.toNat<M):
 SK B M (v.setCell ⟨g,i.d.toNat,none⟩ (.bool true)) (.slice (some ⟨g,0,none⟩) M q) ov (AM s i) us:=by
 have e1:=Q6 (i:=i) ok h1 h2 h3 h4;have e2:(AM s i).set=Gm s.set i/\(AM s i).opens=s.opens:=by rw[Ew h1 h2 h3 h4];exact⟨rfl,rfl⟩
 have hne:∀b,b≠g->(v.setCell ⟨g,i.d.toNat,none⟩ (.bool true)).heap[b]? =v.heap[b]? :=fun b hb=>gE hb;refine⟨by have:=h.hB;simp;omega,?_,?_,by rw[e2.2];exact h.len,fun k hk o ho=>?_⟩
 .rw[e2.1,<-Rj hd hl];exact(h.set.stored _ _).1
 .rw[e1,e2.2];exact Aa h.opn fun b hb=>hne b fun e=>Al h.opn h.set Fy b hb (by rw[e];rfl)
 .rw[e1]at ho;obtain⟨a1,a2⟩:=h.each k hk o ho;exact⟨Aa a1 fun b hb=>hne b fun e=>a2 g rfl (by rw[<-e];exact hb),a2⟩
theorem SK.keep{i:Ax}{n:Nat}(h:SK B M v sv ov s us)(ok:Df n s)(h1:i.op≠34)(h2:i.op≠35)(h3:i.op≠36)(h4:i.op≠37)(hd:(A5 i.op).d=0):SK B M v sv ov (AM s i) us:=by
 have e:AM s i=s:=by rw[Ew h1 h2 h3 h4,OM (M:=0) hd]
 rw[e];exact h
theorem C6{B:Nat}{V:World}{e t:TypeId}{z:Value}{sz by':Nat}(ht:prog.underlying t=some (.slice e))(hi:(prog.info? e).map (fun i=>(i.zero,i.size,i.bytes))=some (some z,sz,by'))(hzs:z.cells.size=sz)(hsz:0<sz){p:Option Addr}{n q:Nat}{xs:List Value}(h:V.ownsRow B e sz (.slice p n q) n xs)(hB:B<=V.heap.size)
 (cs:Array Value) (hcs:cs.size=sz) (h1:∀u∈cs.toList,u.oneCell'=true) (hn:n+1<=maxLen) (hb:(n+1)*by'<=140737488355328) (ty:TypeId):
 ∃g c' w',(Builtin.append_ #[t,t] ty #[.slice p n q,.slice (some ⟨V.heap.size,0,none⟩) 1 1]).run prog (V.alloc (.cells cs e))=.ok (.slice (some ⟨g,0,none⟩) (n+1) c') w'/\Below B V w'/\w'.ownsRow B e sz (.slice (some ⟨g,0,none⟩) (n+1) c') (n+1) (xs++cs.toList)/\∀b,b<V.heap.size->(Value.slice p n q).ownBlock≠some b->w'.heap[b]? =V.heap[b]? :=by
 obtain⟨i0,hi0,hz0,hz1,hz2⟩:=info_parts hi;have hb0:Below V.heap.size V (V.alloc (.cells cs e)):=A2 _ _;have hs:(V.alloc (.cells cs e)).heap.size=V.heap.size+1:=sM;have h0:=Ag h hb0;obtain⟨g,cap,w3,hr,hown,hgrow,hat,hlt⟩:=run_append_lies (P:=prog) (V.alloc (.cells cs e)) t ty B e i0 _ sz by' ht hi0 hz0 hz1 hz2 hzs hsz (.slice p n q) n xs h0 ⟨V.heap.size,0,none⟩ 1 1 cs.toList (by simp[hcs])
  (World.news_of_block (cs:=cs) (t:=e) (fr:=(0,0)) (heap_alloc_new V _)) h1 dE hn hb oM _ rfl
 refine⟨g,cap,w3,hr,(hb0.mono hB).grown hgrow oM (fun q e=>(h0.lt q e).1),hown,fun b hb hne=>?_⟩;rw[hgrow.block b oM (Ne.symm hne)];exact hb0.block b hb
theorem SK.push{i:Ax}{p:Option Addr}{q:Nat}{u:Value}(h:SK B M v sv (.slice p s.opens.length q) s us)(k:Below v.heap.size v v')(hu:v'.ownsRow v.heap.size 4 1 u M (Cm M s.set))(hi:i.op=34\/i.op=36)(hn:s.opens.length<64)(ty:TypeId):
 ∃g c' w',(Builtin.append_ #[93,93] ty #[.slice p s.opens.length q,.slice (some ⟨v'.heap.size,0,none⟩) 1 1]).run prog (v'.alloc (.cells #[.int .i64 i.op,.int .i64 i.n,u] 97))=.ok (.slice (some ⟨g,0,none⟩) (s.opens.length+1) c') w'/\Below B v w'/\SK B M w' sv (.slice (some ⟨g,0,none⟩) (s.opens.length+1) c') (AM s i) (us++[u])/\∀b,b<v'.heap.size->(Value.slice p s.opens.length q).ownBlock≠some b->w'.heap[b]? =v'.heap[b]? :=by
 have h':=h.below k;have hone:u.oneCell'=true:=by
  obtain⟨p,c,rfl⟩:=Ac hu;rfl
 obtain⟨g,c',w',hr,hb,ho,hk⟩:=C6 (V:=v') underlying93 O4 rfl dE h'.opn h'.hB #[.int .i64 i.op,.int .i64 i.n,u] rfl (by intro x hx;simp at hx;rcases hx with rfl|rfl|rfl<;>first|rfl|exact hone) mL oM ty;have hs:(AM s i).set=s.set/\(AM s i).opens.length=s.opens.length+1:=by rw[Jr hi];exact⟨rfl,rfl⟩
 have eo:=Q5 (s:=s) hi;have hsz:=k.size;refine⟨g,c',w',hr,(k.mono h.hB).trans hb,⟨gH h'.hB hb.size,?_,?_,by rw[hs.2,List.length_append,h.len];rfl,fun j hj o ho'=>?_⟩,hk⟩
 .rw[hs.1];exact Aa h'.set fun b hbb=>hk b (h'.set.lt b hbb).2 (fun e=>Al h'.opn h'.set Fy b e hbb)
 .rw[hs.2,eo,Iq _ _ (by rw[Gz];exact h.len.symm)];exact ho
 .rw[eo]at ho';by_cases hlt:j<us.length
  .rw[List.getElem?_append_left (by rw[Gz,<-h.len];exact hlt)]at ho';obtain⟨a1,a2⟩:=h'.each j hlt o ho';rw[List.getElem_append_left hlt];exact⟨Aa a1 fun b hbb=>hk b (a1.lt b hbb).2 (fun e=>Al h'.opn a1 Fy b e hbb),a2⟩
  .have hj':j=us.length:=by simp at hj;omega
   subst hj';rw[List.getElem?_append_right (by rw[Gz,h.len];exact gF _)]at ho';have e0:us.length-(Hw s).length=0:=by rw[Gz,h.len];omega
   rw[e0]at ho';simp at ho';subst ho';have e1:(us++[u])[us.length]'hj=u:=sM;rw[e1];refine⟨C2 (Aa hu fun b hbb=>hk b (hu.lt b hbb).2 (fun e=>?_)) h.hB,fun b hbb e=>?_⟩
   .exact Al h'.opn hu Fy b e hbb
   .have a1:=(hu.lt b e).1;have a2:=(h.set.lt b hbb).2;omega
theorem SK.pop{p:Option Addr}{q n:Nat}(h:SK B M v sv (.slice p s.opens.length q) s us)(ok:Df n s)(h0:0<s.opens.length)(hl:AP s=true):SK B M v sv (.slice p (s.opens.length-1) q) (B9 s) (us.take (s.opens.length-1)):=by
 refine⟨h.hB,by rw[Lq hl];exact h.set,?_,by rw[D8,List.length_take,h.len];omega,fun k hk o ho=>?_⟩
 .rw[D8,Et ok h0,<-FP];exact Fk h.opn oM
 .rw[Et ok h0]at ho;have hk':k<us.length:=by simp at hk;omega
  rw[List.getElem?_take]at ho;split at ho
  .obtain⟨a1,a2⟩:=h.each k hk' o ho;simp only[List.getElem_take];exact⟨a1,a2⟩
  .simp at ho
theorem SK.back{p:Option Addr}{q n:Nat}{u:Value}{o:Ob}(h:SK B M v sv (.slice p s.opens.length q) s us)(ok:Df n s)(h0:0<s.opens.length)(hl:AP s=false)(k:Below v.heap.size v v')(ho:(Hw s)[s.opens.length-1]? =some o)(hu:v'.ownsRow v.heap.size 4 1 u M (Cm M o.set)):
 SK B M v' u (.slice p (s.opens.length-1) q) (B9 s) (us.take (s.opens.length-1)):=by
 refine⟨gH h.hB k.size,by rw[Of hl ho h0];exact C2 hu h.hB,?_,by rw[D8,List.length_take,h.len];omega,fun j hj x hx=>?_⟩
 .rw[D8,Et ok h0,<-FP];exact Ag (Fk h.opn oM) k
 .rw[Et ok h0]at hx;have hk':j<us.length:=by simp at hj;omega
  rw[List.getElem?_take]at hx;split at hx
  .obtain⟨a1,a2⟩:=h.each j hk' x hx;simp only[List.getElem_take];refine⟨Ag a1 k,fun b hb e=>?_⟩;have b1:=(hu.lt b hb).1;have b2:=(a1.lt b e).2;omega
  .simp at hx
theorem SK.last{g q:Nat}(h:SK B M v sv (.slice (some ⟨g,0,none⟩) s.opens.length q) s us)(h0:0<s.opens.length):∃ (X:List Nat) (u:Value),(Hw s)[s.opens.length-1]? =some ⟨if AP s then 36 else 34,C9 s,X⟩/\v.ownsRow B 4 1 u M (Cm M X)/\v.cell? ⟨g,(s.opens.length-1)*3,none⟩=some (.int .i64 (if AP s then 36 else 34))/\v.cell? ⟨g,(s.opens.length-1)*3+1,none⟩=some (.int .i64 (C9 s))/\v.cell? ⟨g,(s.opens.length-1)*3+2,none⟩=some u:=by
 obtain⟨X,hX⟩:=Q4 h0;have hu:s.opens.length-1<us.length:=by rw[h.len];omega
 obtain⟨a1,a2⟩:=h.each _ hu _ hX;have cl:=fun(j:Nat) (hj:j<3)=>ML j hj hX (gB hu);have ca:=fun(j:Nat) (hj:j<3)=>h.opn.cellAt ((s.opens.length-1)*3+j) oM;refine⟨X,_,hX,a1,?_,?_,?_⟩
 .have:=ca 0 dE;rw[cl 0 dE]at this;exact this
 .have:=ca 1 dE;rw[cl 1 dE]at this;exact this
 .have:=ca 2 dE;rw[cl 2 dE]at this;exact this
theorem SK.start(w:World)(B:Nat)(h:B<=w.heap.size){sv:Value}(hs:w.ownsRow B 4 1 sv M (Cm M [])):SK B M w sv (.slice none 0 0) ⟨[],[]⟩ []:=
 ⟨h,hs,World.ownsRow_nil _ _ _ 3,rfl,fun k hk=>by simp at hk⟩
end
theorem AS{w:World}{B:Nat}{t t':TypeId}{k n n' b:Nat}{v:Value}{xs:List Value}{f:Nat->Value}(h:w.ownsRow B t k v n xs)(h':w.rowIs b t' n' f)(ht:t≠t'):v.ownBlock≠some b:=by
 intro hb;rcases h.2 with⟨rfl,_⟩|⟨g,cap,cur,rfl,_,hg,_⟩
 .exact absurd (show(none:Option Nat)=some b from hb) sM
 obtain⟨c,hc,-⟩:=h';have e1:g=b:=Option.some.inj hb;rw[e1,hc]at hg;simp only[Option.some.injEq,Obj.cells.injEq]at hg;exact ht hg.2.1.symm
theorem Xh{V:World}{C:Nat}{t:TypeId}{v0 v1 v2 v3:Value}(rc:V.rowIs C t 4 (f4 v0 v1 v2 v3))(v:Value):(V.setCell ⟨C,2,none⟩ v).rowIs C t 4 (f4 v0 v1 v v3)/\AA C V (V.setCell ⟨C,2,none⟩ v):=by
 refine⟨(rc.set 2 v).congr fun j hj=>?_,AA.one C 2 V v⟩;exact Vj
theorem Xi{V:World}{C:Nat}{t:TypeId}{v0 v1 v2 v3:Value}(rc:V.rowIs C t 4 (f4 v0 v1 v2 v3))(v:Value):(V.setCell ⟨C,3,none⟩ v).rowIs C t 4 (f4 v0 v1 v2 v)/\AA C V (V.setCell ⟨C,3,none⟩ v):=by
 refine⟨(rc.set 3 v).congr fun j hj=>?_,AA.one C 3 V v⟩;exact Vj
structure EQ(E DB:Nat)(w:World)(c:Cd)(u0 u1 u2 u3:Value):Prop where
 le:E<=DB
 row:w.rowIs DB 27 4 (f4 u0 u1 u2 u3)
 own:CP E w u0 u1 u2 u3 c
theorem EQ.sz{E DB:Nat}{w:World}{c:Cd}{u0 u1 u2 u3:Value}(h:EQ E DB w c u0 u1 u2 u3):E<=w.heap.size:=by have:=h.le;have:=h.row.lt;omega
theorem EQ.below{E DB:Nat}{w w':World}{c:Cd}{u0 u1 u2 u3:Value}(h:EQ E DB w c u0 u1 u2 u3)(k:Below w.heap.size w w'):EQ E DB w' c u0 u1 u2 u3:=
 ⟨h.le,h.row.of_block (k.block _ h.row.lt),Ag h.own.sign k,Ag h.own.regs k,Ag h.own.slots k,Ag h.own.list k⟩
theorem EQ.cdv{E DB:Nat}{w:World}{c:Cd}{u0 u1 u2 u3:Value}(h:EQ E DB w c u0 u1 u2 u3):DO w u0 u1 u2 u3 c:=⟨Da JX h.own.sign,Da Nt h.own.regs,Da Nr h.own.slots,Da MC h.own.list⟩
theorem An{w w':World}{B C:Nat}{t t':TypeId}{k n n':Nat}{v:Value}{xs:List Value}{f:Nat->Value}(h:w.ownsRow B t k v n xs)(h':w.rowIs C t' n' f)(ht:t≠t')(p:AA C w w'):w'.ownsRow B t k v n xs:=
 Aa h fun g hg=>p.oth g fun e=>AS h h' ht (e▸hg)
theorem EQ.slot{E DB:Nat}{w:World}{c:Cd}{u0 u1 u2 u3:Value}(h:EQ E DB w c u0 u1 u2 u3)(s:Sl)(hl:c.slots.length*32<=140737488351232)(ty:TypeId):
 ∃g q w',(Builtin.append_ #[24,24] ty #[u2,.slice (some ⟨w.heap.size,0,none⟩) 1 1]).run prog (w.alloc (.cells (Jp s).toArray 59))=.ok (.slice (some ⟨g,0,none⟩) (c.slots.length+1) q) w'/\w'.rowIs DB 27 4 (f4 u0 u1 u2 u3)/\EQ E DB (w'.setCell ⟨DB,2,none⟩ (.slice (some ⟨g,0,none⟩) (c.slots.length+1) q)) ⟨c.sign,c.regs,c.slots++[s],c.list⟩ u0 u1 (.slice (some ⟨g,0,none⟩) (c.slots.length+1) q) u3/\Below E w (w'.setCell ⟨DB,2,none⟩ (.slice (some ⟨g,0,none⟩) (c.slots.length+1) q)):=by
 obtain⟨p,q,rfl⟩:=Ac h.own.slots;obtain⟨g,c',w',h1,h2,h3,h4⟩:=C6 (t:=24) (e:=59) underlying24 Ig rF dE h.own.slots h.sz (Jp s).toArray rfl (by intro u hu;exact Jq s u TE) mL oM ty;have hr:=h.row.of_block (h4 _ h.row.lt (AS h.own.slots h.row dE));have k0:=Aa h.own.sign fun b hb=>h4 b (h.own.sign.lt b hb).2 fun e=>Al h.own.sign h.own.slots dE b hb e;have k1:=Aa h.own.regs fun b hb=>h4 b (h.own.regs.lt b hb).2 fun e=>Al h.own.regs h.own.slots dE b hb e;have k3:=Aa h.own.list fun b hb=>h4 b (h.own.list.lt b hb).2 fun e=>Al h.own.list h.own.slots dE b hb e;have hp:=Xh hr (.slice (some ⟨g,0,none⟩) (c.slots.length+1) c');refine⟨g,c',w',h1,hr,⟨h.le,hp.1,An k0 hr dE hp.2,An k1 hr dE hp.2,?_,An k3 hr dE hp.2⟩,h2.trans (hp.2.bel E h.le)⟩;show World.ownsRow _ _ _ _ _ (c.slots++[s]).length (Bx Jp (c.slots++[s]));rw[List.length_append,List.length_singleton,Bz,show Bx Jp [s]=Jp s by simp[Bx]];exact TC
theorem EQ.reg{E DB:Nat}{w:World}{c:Cd}{u0 u1 u2 u3:Value}(h:EQ E DB w c u0 u1 u2 u3)(s:Ty)(hl:c.regs.length*16<=140737488351232)(ty:TypeId):
 ∃g q w',(Builtin.append_ #[23,23] ty #[u1,.slice (some ⟨w.heap.size,0,none⟩) 1 1]).run prog (w.alloc (.cells (IG s).toArray 43))=.ok (.slice (some ⟨g,0,none⟩) (c.regs.length+1) q) w'/\w'.rowIs DB 27 4 (f4 u0 u1 u2 u3)/\EQ E DB (w'.setCell ⟨DB,1,none⟩ (.slice (some ⟨g,0,none⟩) (c.regs.length+1) q)) ⟨c.sign,c.regs++[s],c.slots,c.list⟩ u0 (.slice (some ⟨g,0,none⟩) (c.regs.length+1) q) u2 u3/\Below E w (w'.setCell ⟨DB,1,none⟩ (.slice (some ⟨g,0,none⟩) (c.regs.length+1) q)):=by
 obtain⟨p,q,rfl⟩:=Ac h.own.regs;obtain⟨g,c',w',h1,h2,h3,h4⟩:=C6 (t:=23) (e:=43) underlying23 FK rF dE h.own.regs h.sz (IG s).toArray rfl (by intro u hu;exact Ju s u TE) mL oM ty;have hr:=h.row.of_block (h4 _ h.row.lt (AS h.own.regs h.row dE));have k0:=Aa h.own.sign fun b hb=>h4 b (h.own.sign.lt b hb).2 fun e=>Al h.own.sign h.own.regs dE b hb e;have k2:=Aa h.own.slots fun b hb=>h4 b (h.own.slots.lt b hb).2 fun e=>Al h.own.slots h.own.regs dE b hb e;have k3:=Aa h.own.list fun b hb=>h4 b (h.own.list.lt b hb).2 fun e=>Al h.own.list h.own.regs dE b hb e;have hp:=Qm hr (.slice (some ⟨g,0,none⟩) (c.regs.length+1) c');refine⟨g,c',w',h1,hr,⟨h.le,hp.1,An k0 hr dE hp.2,?_,An k2 hr dE hp.2,An k3 hr dE hp.2⟩,h2.trans (hp.2.bel E h.le)⟩;show World.ownsRow _ _ _ _ _ (c.regs++[s]).length (Bx IG (c.regs++[s]));rw[List.length_append,List.length_singleton,Bz,show Bx IG [s]=IG s by simp[Bx]];exact TC
theorem EQ.ins{E DB:Nat}{w:World}{c:Cd}{u0 u1 u2 u3:Value}(h:EQ E DB w c u0 u1 u2 u3)(s:Ax)(hl:c.list.length*56<=140737488351232)(ty:TypeId):
 ∃g q w',(Builtin.append_ #[25,25] ty #[u3,.slice (some ⟨w.heap.size,0,none⟩) 1 1]).run prog (w.alloc (.cells (CJ s).toArray 39))=.ok (.slice (some ⟨g,0,none⟩) (c.list.length+1) q) w'/\w'.rowIs DB 27 4 (f4 u0 u1 u2 u3)/\EQ E DB (w'.setCell ⟨DB,3,none⟩ (.slice (some ⟨g,0,none⟩) (c.list.length+1) q)) ⟨c.sign,c.regs,c.slots,c.list++[s]⟩ u0 u1 u2 (.slice (some ⟨g,0,none⟩) (c.list.length+1) q)/\Below E w (w'.setCell ⟨DB,3,none⟩ (.slice (some ⟨g,0,none⟩) (c.list.length+1) q)):=by
 obtain⟨p,q,rfl⟩:=Ac h.own.list;obtain⟨g,c',w',h1,h2,h3,h4⟩:=C6 (t:=25) (e:=39) underlying25 O3 rF dE h.own.list h.sz (CJ s).toArray rfl (by intro u hu;exact IX s u TE) mL oM ty;have hr:=h.row.of_block (h4 _ h.row.lt (AS h.own.list h.row dE));have k0:=Aa h.own.sign fun b hb=>h4 b (h.own.sign.lt b hb).2 fun e=>Al h.own.sign h.own.list dE b hb e;have k1:=Aa h.own.regs fun b hb=>h4 b (h.own.regs.lt b hb).2 fun e=>Al h.own.regs h.own.list dE b hb e;have k2:=Aa h.own.slots fun b hb=>h4 b (h.own.slots.lt b hb).2 fun e=>Al h.own.slots h.own.list dE b hb e;have hp:=Xi hr (.slice (some ⟨g,0,none⟩) (c.list.length+1) c');refine⟨g,c',w',h1,hr,⟨h.le,hp.1,An k0 hr dE hp.2,An k1 hr dE hp.2,An k2 hr dE hp.2,?_⟩,h2.trans (hp.2.bel E h.le)⟩;show World.ownsRow _ _ _ _ _ (c.list++[s]).length (Bx CJ (c.list++[s]));rw[List.length_append,List.length_singleton,Bz,show Bx CJ [s]=CJ s by simp[Bx]];exact TC
structure G7(E:Nat)(w:World)(m0 m1 m2 m3 m4:Nat):Prop where
 sorts:BN w m0 (As Fv 3)/\E<=m0
 kinds:BN w m1 (As CH 3)/\E<=m1
 types:BN w m2 (As CC 4)/\E<=m2
 keeps:BN w m3 (As Co 2)/\E<=m3
 ops:BN w m4 (As Dy 38)/\E<=m4
theorem BN.lt{w:World}{C:Nat}{g:Bs->Option Nat}(h:BN w C g):C<w.heap.size:=by obtain⟨n,h⟩:=h;exact h.lt
theorem BN.keep{w w':World}{C:Nat}{g:Bs->Option Nat}(h:BN w C g)(k:w'.heap[C]? =w.heap[C]?):BN w' C g:=by obtain⟨n,h⟩:=h;exact⟨n,h.block k⟩
theorem BN.below{w w':World}{C:Nat}{g:Bs->Option Nat}(h:BN w C g)(k:Below w.heap.size w w'):BN w' C g:=h.keep (k.block C h.lt)
theorem BN.no{w:World}{C b n:Nat}{t:TypeId}{f:Nat->Value}{g:Bs->Option Nat}(h:BN w C g)(r:w.rowIs b t (n+1) f):C≠b:=by
 obtain⟨_,h⟩:=h;exact fun e=>h.cell (r.cell (i:=0) (Nat.succ_pos n)) e.symm
theorem G7.keep{E:Nat}{w w':World}{m0 m1 m2 m3 m4:Nat}(h:G7 E w m0 m1 m2 m3 m4)(k:∀ (C:Nat) (g:Bs->Option Nat),BN w C g->w'.heap[C]? =w.heap[C]?):G7 E w' m0 m1 m2 m3 m4:=
 ⟨⟨h.sorts.1.keep (k _ _ h.sorts.1),h.sorts.2⟩,⟨h.kinds.1.keep (k _ _ h.kinds.1),h.kinds.2⟩,⟨h.types.1.keep (k _ _ h.types.1),h.types.2⟩,⟨h.keeps.1.keep (k _ _ h.keeps.1),h.keeps.2⟩,⟨h.ops.1.keep (k _ _ h.ops.1),h.ops.2⟩⟩
structure Cq(E B m0 m1 m2 m3 m4:Nat)(w:World)(c:Cd)(ln st:Int)(u0 u1 u2 u3:Value):Prop where
 le:E<=B
 row:w.rowIs B 48 11 (IV u0 u1 u2 u3 (.int .i64 ln) (.int .i64 st) (.map (some m0)) (.map (some m1)) (.map (some m2)) (.map (some m3)) (.map (some m4)))
 own:CP E w u0 u1 u2 u3 c
 maps:G7 E w m0 m1 m2 m3 m4
theorem Cq.below{E B m0 m1 m2 m3 m4:Nat}{w w':World}{c:Cd}{ln st:Int}{u0 u1 u2 u3:Value}(h:Cq E B m0 m1 m2 m3 m4 w c ln st u0 u1 u2 u3)(k:Below w.heap.size w w'):Cq E B m0 m1 m2 m3 m4 w' c ln st u0 u1 u2 u3:=
 ⟨h.le,h.row.of_block (k.block _ h.row.lt),⟨Ag h.own.sign k,Ag h.own.regs k,Ag h.own.slots k,Ag h.own.list k⟩,h.maps.keep fun C g hm=>k.block C hm.lt⟩
theorem Cq.ofB{E B WB m0 m1 m2 m3 m4:Nat}{w w':World}{c:Cd}{ln st:Int}{u0 u1 u2 u3:Value}{f:Nat->Value}(h:Cq E B m0 m1 m2 m3 m4 w c ln st u0 u1 u2 u3)(hw:w.rowIs WB 102 3 f)(k:BS WB w w'):Cq E B m0 m1 m2 m3 m4 w' c ln st u0 u1 u2 u3:=by
 have hne:B≠WB:=fun e=>by
  obtain⟨x,hx,-⟩:=h.row;obtain⟨y,hy,-⟩:=hw;rw[e,hy]at hx;have:=(Obj.cells.inj (Option.some.inj hx)).2.1;exact absurd this dE
 refine⟨h.le,h.row.of_block (k.oth _ h.row.lt hne),⟨?_,?_,?_,?_⟩,h.maps.keep fun C g hm=>k.oth C hm.lt (hm.no hw)⟩
 .exact Aa h.own.sign fun b hb=>k.oth b (h.own.sign.lt b hb).2 fun e=>AS h.own.sign hw dE (e▸hb)
 .exact Aa h.own.regs fun b hb=>k.oth b (h.own.regs.lt b hb).2 fun e=>AS h.own.regs hw dE (e▸hb)
 .exact Aa h.own.slots fun b hb=>k.oth b (h.own.slots.lt b hb).2 fun e=>AS h.own.slots hw dE (e▸hb)
 .exact Aa h.own.list fun b hb=>k.oth b (h.own.list.lt b hb).2 fun e=>AS h.own.list hw dE (e▸hb)
theorem PU(w:World):Calls prog 9 #[] w fun e w'=>∃B m0 m1 m2 m3 m4,e=.returned (.pointer (some ⟨B,0,none⟩))/\Cq w.heap.size B m0 m1 m2 m3 m4 w' ⟨[],[],[],[]⟩ 0 0 (.slice none 0 0) (.slice none 0 0) (.slice none 0 0) (.slice none 0 0)/\Below w.heap.size w w':=by
 have M0:=A3 (fun p v hr=>Ec p Fv dE dE v hr);have M1:=A3 (fun p v hr=>Ec p CH dE dE v hr);have M2:=A3 (fun p v hr=>Ec p CC dE dE v hr);have M3:=A3 (fun p v hr=>Ec p Co dE dE v hr);have M4:=A3 (fun p v hr=>Ec p Dy dE dE v hr);have l0:Fv.length=3:=rfl;have l1:CH.length=3:=rfl;have l2:CC.length=4:=rfl;have l3:Co.length=2:=rfl;have l4:Dy.length=38:=dE;rw[l0]at M0;rw[l1]at M1;rw[l2]at M2;rw[l3]at M3;rw[l4]at M4;clear l0 l1 l2 l3 l4;go_enter func9,ntmps9;go_wp2_with(first
  |(go_at_call 22;(with_reducible refine(EM _).mono ?_);rintro e w1 ⟨p1,rfl,q1,r1,b1⟩)
  |(go_at_call 23;(with_reducible refine(EI _).mono ?_);rintro e w3 ⟨p3,rfl,q3,r3,b3⟩)
  |(go_at_call 24;(with_reducible refine(EP _).mono ?_);rintro e w5 ⟨p5,rfl,q5,r5,b5⟩)
  |(go_at_call 25;(with_reducible refine(EH _).mono ?_);rintro e w7 ⟨p7,rfl,q7,r7,b7⟩)
  |(go_at_call 26;(with_reducible refine(Gb _).mono ?_);rintro e w9 ⟨p9,rfl,q9,r9,b9⟩)
  |(go_at_call 21;(with_reducible refine(M0.out _ _ r1).mono ?_);rintro e w2 ⟨m0,rfl,n0,g0,b2⟩)
  |(go_at_call 21;(with_reducible refine(M1.out _ _ r3).mono ?_);rintro e w4 ⟨m1,rfl,n1,g1,b4⟩)
  |(go_at_call 21;(with_reducible refine(M2.out _ _ r5).mono ?_);rintro e w6 ⟨m2,rfl,n2,g2,b6⟩)
  |(go_at_call 21;(with_reducible refine(M3.out _ _ r7).mono ?_);rintro e w8 ⟨m3,rfl,n3,g3,b8⟩)
  |(go_at_call 21;(with_reducible refine(M4.out _ _ r9).mono ?_);rintro e w10 ⟨m4,rfl,n4,g4,b10⟩))
 go_ret;have b11:=A2 w10 (.cells #[.slice none 0 0,.slice none 0 0,.slice none 0 0,.slice none 0 0,.int .i64 0,.int .i64 0,.map (some m0),.map (some m1),.map (some m2),.map (some m3),.map (some m4)] 48);have s1:=b1.size;have s2:=b2.size;have s3:=b3.size;have s4:=b4.size;have s5:=b5.size;have s6:=b6.size;have s7:=b7.size;have s8:=b8.size;have s9:=b9.size;have s10:=b10.size;have c8:=bel b9 b10;have c6:=bel (bel b7 b8) c8;have c4:=bel (bel b5 b6) c6;have c2:=bel (bel b3 b4) c4;have c0:=bel (bel b1 b2) c2;refine⟨_,m0,m1,m2,m3,m4,rfl,⟨oM,SV _ _ _ _ _ _ _ _ _ _ _ _ _,⟨⟨rfl,.inl ⟨rfl,rfl⟩⟩,⟨rfl,.inl ⟨rfl,rfl⟩⟩,⟨rfl,.inl ⟨rfl,rfl⟩⟩,⟨rfl,.inl ⟨rfl,rfl⟩⟩⟩,?_⟩,bel c0 b11⟩;exact⟨⟨(g0.below c2).below b11,oM⟩,⟨(g1.below c4).below b11,oM⟩,⟨(g2.below c6).below b11,oM⟩,⟨(g3.below c8).below b11,oM⟩,⟨g4.below b11,oM⟩⟩
theorem BS.putN{B C:Nat}{w w' w'':World}(h:BS B w w')(p:AA C w' w'')(hC:w.heap.size<=C):BS B w w'':=
 ⟨fun b h1 h2=>(p.oth b (fun e=>by omega)).trans (h.oth b h1 h2),fun E h1 h2=>(h.bel E h1 h2).trans (p.bel E (gH h2 hC)),gH h.size (p.bel 0 (gJ _)).size⟩
theorem CD.putN{B C:Nat}{ws:List Bs}{b:Bool}{w w':World}(h:CD B ws b w)(p:AA C w w')(hC:B≠C):CD B ws b w':=by
 obtain⟨T,h1,h2,h3⟩:=h.row;exact⟨⟨T,h1,h2,h3.of_block (p.oth _ hC)⟩,h.no⟩
theorem II(x:Bs):As CC 4 x=if x=Bp then some 1 else if x=BV then some 2 else if x=AW then some 3 else none:=by
 by_cases h1:x=Bp
 .subst h1;decide
 by_cases h2:x=BV
 .subst h2;decide
 by_cases h3:x=AW
 .subst h3;decide
 simp[As,CC,h1,h2,h3]
def IN{α:Type}(b:Bool)(o:Option (α×List Bs))(a:α)(ws':List Bs)(b':Bool):Prop:=
 match o with
 |some (x,r)=>b'=b/\a=x/\ws'=r
 |none=>b'=true
theorem Tt{ws:List Bs}{b b1:Bool}{n:Int}(hn:(((As CC 4 (Ab ws).1).getD 0:Nat):Int)=n)(hb:(b|| !(As CC 4 (Ab ws).1).isSome)=b1)(hn3:¬n=3):IN b (AY ws) ⟨n,0⟩ (Ab ws).2 b1:=by
 rw[II]at hn hb;rw[Kv];by_cases h1:(Ab ws).1=Bp
 .rw[if_pos h1]at hn hb |-;exact⟨by rw[<-hb];simp,by rw[<-hn];rfl,rfl⟩
 rw[if_neg h1]at hn hb |-;by_cases h2:(Ab ws).1=BV
 .rw[if_pos h2]at hn hb |-;exact⟨by rw[<-hb];simp,by rw[<-hn];rfl,rfl⟩
 rw[if_neg h2]at hn hb |-;by_cases h3:(Ab ws).1=AW
 .rw[if_pos h3]at hn;exact absurd hn.symm hn3
 rw[if_neg h3]at hb |-;show b1=true;rw[<-hb];simp
theorem Rz{ws:List Bs}{b b1:Bool}{m:Int}(hn:(((As CC 4 (Ab ws).1).getD 0:Nat):Int)=3)(hb:(b|| !(As CC 4 (Ab ws).1).isSome)=b1)
 (hm:∀x,Af (Ab (Ab ws).2).1=some x->m=x):IN b (AY ws) ⟨3,m⟩ (Ab (Ab ws).2).2 (b1|| !(Af (Ab (Ab ws).2).1).isSome):=by
 rw[II]at hn hb;rw[Kv];by_cases h1:(Ab ws).1=Bp
 .rw[if_pos h1]at hn;exact absurd hn dE
 rw[if_neg h1]at hn hb |-;by_cases h2:(Ab ws).1=BV
 .rw[if_pos h2]at hn;exact absurd hn dE
 rw[if_neg h2]at hn hb |-;by_cases h3:(Ab ws).1=AW
 .rw[if_pos h3]at hb |-;cases e:Af (Ab (Ab ws).2).1 with
  |none=>show(b1|| !false)=true;simp
  |some x=>exact⟨by rw[<-hb];simp,by rw[hm x e],rfl⟩
 rw[if_neg h3]at hn;exact absurd hn dE
theorem RG{w:World}{b:Nat}{t:TypeId}{a0 a1:Value}(h:w.rowIs b t 2 (g2 a0 a1)):w.cell? ⟨b,0,none⟩=some a0/\w.cell? ⟨b,1,none⟩=some a1:=⟨h.cell (i:=0) dE,h.cell (i:=1) dE⟩
theorem Wz{w:World}{b n:Nat}{t:TypeId}{f:Nat->Value}(h:w.rowIs b t n f):w.frozen? ⟨b,0,none⟩=false/\w.frozen? ⟨b,1,none⟩=false:=⟨h.frozen 0,h.frozen 1⟩
theorem IJ(E B WB m0 m1 m2 m3 m4:Nat)(c:Cd)(ln st:Int)(u0 u1 u2 u3:Value)(ws:List Bs)(b:Bool)(w:World)(hL:BF E w)(hE:E<=WB)(h:Cq E B m0 m1 m2 m3 m4 w c ln st u0 u1 u2 u3)(hw:CD WB ws b w):
 Calls prog 81 #[.pointer (some ⟨B,0,none⟩),.pointer (some ⟨WB,0,none⟩)] w fun e w'=>∃ (t:Ty) (ws':List Bs) (b':Bool),e=.returned (.agg #[.int .i64 t.kind,.int .i64 t.par])/\CD WB ws' b' w'/\BS WB w w'/\IN b (AY ws) t ws' b':=by
 have hLt:=hw.lt;obtain⟨G,hG⟩:=gA (w.heap.size)
 obtain⟨W,hW⟩:=gA (w.alloc (.cells #[.int .i64 0,.int .i64 0] 43))
 have HB0:Hid (Below w.heap.size w W):=by rw[<-hW];exact A2 _ _
 have HR0:Hid (W.rowIs G 43 2 (g2 (.int .i64 0) (.int .i64 0))):=by rw[<-hW,<-hG];exact BJ _ _ _ _
 have hwW:=hw.below HB0.out;have hLW:=hL.below (HB0.mono hL.le);have hhW:=h.below HB0.out;have K1:=A3 (Ey WB m2 ws b (As CC 4) W hLW.laid hwW hhW.maps.types.1);have HC8:=A3 (hhW.row.cell (i:=8) dE);obtain⟨n,hn⟩:∃n:Int,(((As CC 4 (Ab ws).1).getD 0:Nat):Int)=n:=⟨_,rfl⟩
 obtain⟨b1,hb1⟩:∃b1:Bool,(b|| !(As CC 4 (Ab ws).1).isSome)=b1:=⟨_,rfl⟩
 rw[hn,hb1]at K1;have HN:=A3 (And.intro hn hb1);have HX:=A3 (And.intro hLt (And.intro hE (And.intro hL hG)));clear h hw hL hwW hLW hhW hE hn hb1 hLt;have v7:W.cell? ⟨B,8,none⟩=some (.map (some m2)):=HC8.out;go_enter func81,ntmps81;go_upto_region 1 with fail;clear hG hW;go_upto_region 2 with(go_at_call 78;(with_reducible refine K1.out.mono ?_);rintro e w1 ⟨rfl,h1,k1⟩;have H1:=A3 (And.intro h1 k1);clear h1 k1;clear v7)
 obtain⟨V,hV⟩:=gA (w1.alloc (.cells #[.int .i64 n,.int .i64 0] 43))
 rw[hV];have hp:=BJ w1 43 (.int .i64 n) (.int .i64 0);have hb:=A2 w1 (.cells #[.int .i64 n,.int .i64 0] 43);rw[hV]at hp hb;have l1:=H1.2.size;have l0:=HB0.size;have lG:G<w1.heap.size:=by have:=HR0.lt;omega
 have HO:Hid (BS WB w V):=((BS.of HB0.out).trans H1.2).trans (BS.of hb);have HWD:Hid (CD WB (Ab ws).2 b1 V):=H1.1.below hb;have HRT:Hid (V.rowIs w1.heap.size 43 2 (g2 (.int .i64 n) (.int .i64 0))):=hp;have HRG:Hid (V.rowIs G 43 2 (g2 (.int .i64 0) (.int .i64 0))):=by
  have eG:=HX.2.2.2;have r1:=HR0.of_block (H1.2.oth _ HR0.lt (by have:=HX.1;omega));exact r1.of_block (hb.block _ r1.lt)
 obtain⟨Z,hZ⟩:=gA (w1.heap.size)
 rw[hZ]at HRT lG;have HGZ:=A3 lG;simp only[hZ];clear hp hb hV l1 l0 lG hZ;obtain⟨t0,t1⟩:=RG HRT.out;obtain⟨g0,g1⟩:=RG HRG.out;by_cases hn3:n=3
 .subst hn3;have HL:=A3 (HX.out.2.2.1.ofB HX.out.2.1 HO.out);have KN:=A3 (Dq WB (Ab ws).2 b1 V HL.out.laid HWD.out (fun v k=>(HL.out.ofB HX.out.2.1 k).laid));go_upto_region 4 with(go_at_call 79;(with_reducible refine KN.out.mono ?_);rintro e w3 ⟨m,rfl,hm,h3,k3⟩;have H3:=A3 (And.intro h3 (And.intro k3 hm));clear h3 k3 hm;have y1:=HRT.out.of_block (H3.out.2.1.oth _ HRT.out.lt Yp);have HY1:=A3 y1;clear t0 t1 g0 g1;obtain⟨t0,t1⟩:=RG y1;obtain⟨f0,f1⟩:=Wz y1;clear y1)
  have hq:=UJ HY1.out (.int .i64 m);have HQ:=A3 hq;obtain⟨q0,q1⟩:=RG hq.1;have yg:=(HRG.of_block (H3.2.1.oth _ HRG.lt Wn)).of_block (hq.2.oth _ (by have:=HGZ.out;omega));have HYG:=A3 yg;have yg3:=HRG.of_block (H3.2.1.oth _ HRG.lt Wn);obtain⟨g0,g1⟩:=RG yg3;obtain⟨i0,i1⟩:=Wz yg3;have nZ:¬Z=G:=by have:=HGZ.out;omega
  have nG:¬G=Z:=by have:=HGZ.out;omega
  have hs:=TN yg (.int .i64 3) (.int .i64 m);have HS:=A3 hs;obtain⟨s0,s1⟩:=RG hs.1;obtain⟨j0,j1⟩:=Wz yg;clear hq yg hs yg3;go_wp2_with fail;refine bodyPost_ret (v:=.agg #[.int .i64 3,.int .i64 m]) (by simp[results,results81,go_sem,s0,s1]) rfl ?_;refine⟨⟨3,m⟩,_,_,rfl,?_,?_,Rz HN.1 HN.2 H3.2.2⟩
  .exact(H3.1.putN HQ.2 Yp).putN HS.2 Wn
  .exact((HO.trans H3.2.1).putN HQ.2 (by have:=HGZ.out;have:=HX.2.2.2;omega)).putN HS.2 (by have:=HX.2.2.2;omega)
 .have e3:(n==3)=false:=by simpa using hn3
  have hs:=TN HRG.out (.int .i64 n) (.int .i64 0);have HS:=A3 hs;obtain⟨s0,s1⟩:=RG hs.1;obtain⟨j0,j1⟩:=Wz HRG.out;clear hs;go_wp2_with fail;refine bodyPost_ret (v:=.agg #[.int .i64 n,.int .i64 0]) (by simp[results,results81,go_sem,s0,s1]) rfl ?_;refine⟨⟨n,0⟩,_,_,rfl,?_,?_,Tt HN.1 HN.2 hn3⟩
  .exact HWD.putN HS.2 Wn
  .exact HO.putN HS.2 (by have:=HX.2.2.2;omega)
theorem GA{w:World}{B C:Nat}{t:TypeId}{k n:Nat}{v:Value}{xs:List Value}{g:Bs->Option Nat}(h:w.ownsRow B t k v n xs)(h':BN w C g):v.ownBlock≠some C:=by
 intro hb;rcases h.2 with⟨rfl,_⟩|⟨y,cap,cur,rfl,_,hg,_⟩
 .exact absurd (show(none:Option Nat)=some C from hb) sM
 have e1:y=C:=Option.some.inj hb;obtain⟨_,hm⟩:=h';obtain⟨es,ck,ho⟩:=hm.obj;rw[e1,ho]at hg;simp at hg
theorem Cq.reg{E B WB m0 m1 m2 m3 m4:Nat}{w:World}{c:Cd}{ln st:Int}{u0 u1 u2 u3:Value}{ws:List Bs}{b:Bool}(h:Cq E B m0 m1 m2 m3 m4 w c ln st u0 u1 u2 u3)(hw:CD WB ws b w)(s:Ty)(hl:c.regs.length*16<=140737488351232)(ty:TypeId):
 ∃g q w',(Builtin.append_ #[23,23] ty #[u1,.slice (some ⟨w.heap.size,0,none⟩) 1 1]).run prog (w.alloc (.cells (IG s).toArray 43))=.ok (.slice (some ⟨g,0,none⟩) (c.regs.length+1) q) w'/\w'.rowIs B 48 11 (IV u0 u1 u2 u3 (.int .i64 ln) (.int .i64 st) (.map (some m0)) (.map (some m1)) (.map (some m2)) (.map (some m3)) (.map (some m4)))/\Cq E B m0 m1 m2 m3 m4 (w'.setCell ⟨B,1,none⟩ (.slice (some ⟨g,0,none⟩) (c.regs.length+1) q)) ⟨c.sign,c.regs++[s],c.slots,c.list⟩ ln st u0 (.slice (some ⟨g,0,none⟩) (c.regs.length+1) q) u2 u3/\CD WB ws b (w'.setCell ⟨B,1,none⟩ (.slice (some ⟨g,0,none⟩) (c.regs.length+1) q))/\Below E w (w'.setCell ⟨B,1,none⟩ (.slice (some ⟨g,0,none⟩) (c.regs.length+1) q)):=by
 have hsz:E<=w.heap.size:=by have:=h.le;have:=h.row.lt;omega
 obtain⟨p,q,rfl⟩:=Ac h.own.regs;obtain⟨g,c',w',h1,h2,h3,h4⟩:=C6 (t:=23) (e:=43) underlying23 FK rF dE h.own.regs hsz (IG s).toArray rfl (by intro u hu;exact Ju s u TE) mL oM ty;have hr:=h.row.of_block (h4 _ h.row.lt (AS h.own.regs h.row dE));have k0:=Aa h.own.sign fun b hb=>h4 b (h.own.sign.lt b hb).2 fun e=>Al h.own.sign h.own.regs dE b hb e;have k2:=Aa h.own.slots fun b hb=>h4 b (h.own.slots.lt b hb).2 fun e=>Al h.own.slots h.own.regs dE b hb e;have k3:=Aa h.own.list fun b hb=>h4 b (h.own.list.lt b hb).2 fun e=>Al h.own.list h.own.regs dE b hb e;have km:G7 E w' m0 m1 m2 m3 m4:=h.maps.keep fun C g hm=>h4 C hm.lt (GA h.own.regs hm);have hp:=SO hr (.slice (some ⟨g,0,none⟩) (c.regs.length+1) c');obtain⟨T,w1,w2,w3⟩:=hw.row;have hr3:=w3.of_block (h4 _ w3.lt (AS h.own.regs w3 dE));have hne:WB≠B:=fun e=>by
  exact W8
 refine⟨g,c',w',h1,hr,⟨h.le,hp.1,⟨An k0 hr dE hp.2,?_,An k2 hr dE hp.2,An k3 hr dE hp.2⟩,km.keep fun C g hm=>hp.2.oth C (hm.no hr)⟩,⟨⟨T,w1,w2,hr3.of_block (hp.2.oth _ hne)⟩,hw.no⟩,h2.trans (hp.2.bel E h.le)⟩;show World.ownsRow _ _ _ _ _ (c.regs++[s]).length (Bx IG (c.regs++[s]));rw[List.length_append,List.length_singleton,Bz,show Bx IG [s]=IG s by simp[Bx]];exact TC
def RK(ws:List Bs)(n:Int)(c c':Cd)(ws':List Bs)(b':Bool):Prop:=
 match Bi n ws with
 |some t=>ws'=[]/\b'=false/\c'=⟨c.sign,c.regs++[t],c.slots,c.list⟩
 |none=>¬ (ws'=[]/\b'=false)
theorem SX{ws:List Bs}{n m:Int}{c:Cd}{t:Ty}{ws':List Bs}{b':Bool}(ha:(Ab ws).1=BU)(hm:∀x,Af (Ab (Ab ws).2).1=some x->m=x)
 (ht:IN ((false|| !(Af (Ab (Ab ws).2).1).isSome)|| !(m==n)) (AY (Ab (Ab ws).2).2) t ws' b'):RK ws n c ⟨c.sign,c.regs++[t],c.slots,c.list⟩ ws' b':=by
 unfold RK;rw[Qv ha];unfold IN at ht;by_cases hn:Af (Ab (Ab ws).2).1=some n
 .rw[if_pos hn];have e:=hm n hn;subst e;rw[hn]at ht;cases ht2:AY (Ab (Ab ws).2).2 with
  |none=>
   rw[ht2]at ht;simp only at ht;rw[ht];simp
  |some p=>
   obtain⟨t',r⟩:=p;rw[ht2]at ht;simp only at ht;obtain⟨h1,h2,h3⟩:=ht;subst h2 h3;rw[Option.bind_some,Pd];by_cases hr:ws'=[]
   .rw[if_pos hr];exact⟨hr,by rw[h1];simp,rfl⟩
   .rw[if_neg hr];exact fun q=>hr q.1
 .rw[if_neg hn];have hf:((false|| !(Af (Ab (Ab ws).2).1).isSome)|| !(m==n))=true:=by
   cases e:Af (Ab (Ab ws).2).1 with
   |none=>simp
   |some x=>
    have:=hm x e;subst this;have:¬m=n:=fun q=>hn (by rw[e,q]);simp[this]
  rw[hf]at ht;have hb:b'=true:=by
   cases ht2:AY (Ab (Ab ws).2).2 with
   |none=>rw[ht2]at ht;exact ht
   |some p=>
    obtain⟨t',r⟩:=p;rw[ht2]at ht;exact ht.1
  rw[hb];simp
theorem If:(prog.info? 41).map (fun i=>(i.zero,i.size,i.bytes))=some (some (.agg #[.string ⟨#[]⟩,.int .i64 0,.int .i64 0]),3,32):=kR
theorem PF:(prog.info? 39).map (fun i=>(i.zero,i.size,i.bytes))=some (some (.agg #[.int .i64 0,.int .i64 0,.int .i64 0,.int .i64 0,.int .i64 0,.int .i64 0,.int .u32 0]),7,56):=kR
theorem BP{P:Program}{w w':World}{o:Oper}{a:Act}{K:Act->World->Prop}{Q:Exit->Act->World->Prop}(s x:Operand)(t u:TypeId)
 (ho:o.op=.call {callee:=.builtin .append,args:=#[s,x],argTypes:=#[t,u]}) (v v2 v':Value) (hs:a.eval s=v) (hx:a.eval x=v2) (hr:(Builtin.append_ #[t,u] o.type #[v,v2]).run P w=.ok v' w')
 (h:K (a.put o.dst v') w') (y':Bool) (hy:y'=true):if y'=true then Oper.wp P o a w K Q else K (a.put o.dst undef) w:=by
 rw[if_pos hy];exact VY
theorem Cq.slot{E B WB m0 m1 m2 m3 m4:Nat}{w:World}{c:Cd}{ln st:Int}{u0 u1 u2 u3:Value}{ws:List Bs}{b:Bool}(h:Cq E B m0 m1 m2 m3 m4 w c ln st u0 u1 u2 u3)(hw:CD WB ws b w)(s:Sl)(hl:c.slots.length*32<=140737488351232)(ty:TypeId):
 ∃g q w',(Builtin.append_ #[24,24] ty #[u2,.slice (some ⟨w.heap.size,0,none⟩) 1 1]).run prog (w.alloc (.cells (Jp s).toArray 59))=.ok (.slice (some ⟨g,0,none⟩) (c.slots.length+1) q) w'/\w'.rowIs B 48 11 (IV u0 u1 u2 u3 (.int .i64 ln) (.int .i64 st) (.map (some m0)) (.map (some m1)) (.map (some m2)) (.map (some m3)) (.map (some m4)))/\Cq E B m0 m1 m2 m3 m4 (w'.setCell ⟨B,2,none⟩ (.slice (some ⟨g,0,none⟩) (c.slots.length+1) q)) ⟨c.sign,c.regs,c.slots++[s],c.list⟩ ln st u0 u1 (.slice (some ⟨g,0,none⟩) (c.slots.length+1) q) u3/\CD WB ws b (w'.setCell ⟨B,2,none⟩ (.slice (some ⟨g,0,none⟩) (c.slots.length+1) q))/\Below E w (w'.setCell ⟨B,2,none⟩ (.slice (some ⟨g,0,none⟩) (c.slots.length+1) q)):=by
 have hsz:E<=w.heap.size:=by have:=h.le;have:=h.row.lt;omega
 obtain⟨p,q,rfl⟩:=Ac h.own.slots;obtain⟨g,c',w',h1,h2,h3,h4⟩:=C6 (t:=24) (e:=59) underlying24 Ig rF dE h.own.slots hsz (Jp s).toArray rfl (by intro u hu;exact Jq s u TE) mL oM ty;have hr:=h.row.of_block (h4 _ h.row.lt (AS h.own.slots h.row dE));have k0:=Aa h.own.sign fun b hb=>h4 b (h.own.sign.lt b hb).2 fun e=>Al h.own.sign h.own.slots dE b hb e;have k1:=Aa h.own.regs fun b hb=>h4 b (h.own.regs.lt b hb).2 fun e=>Al h.own.regs h.own.slots dE b hb e;have k3:=Aa h.own.list fun b hb=>h4 b (h.own.list.lt b hb).2 fun e=>Al h.own.list h.own.slots dE b hb e;have km:G7 E w' m0 m1 m2 m3 m4:=h.maps.keep fun C g hm=>h4 C hm.lt (GA h.own.slots hm);have hp:=SP hr (.slice (some ⟨g,0,none⟩) (c.slots.length+1) c');obtain⟨T,w1,w2,w3⟩:=hw.row;have hr3:=w3.of_block (h4 _ w3.lt (AS h.own.slots w3 dE));have hne:WB≠B:=fun e=>by
  exact W8
 refine⟨g,c',w',h1,hr,⟨h.le,hp.1,⟨An k0 hr dE hp.2,An k1 hr dE hp.2,?_,An k3 hr dE hp.2⟩,km.keep fun C g hm=>hp.2.oth C (hm.no hr)⟩,⟨⟨T,w1,w2,hr3.of_block (hp.2.oth _ hne)⟩,hw.no⟩,h2.trans (hp.2.bel E h.le)⟩;show World.ownsRow _ _ _ _ _ (c.slots++[s]).length (Bx Jp (c.slots++[s]));rw[List.length_append,List.length_singleton,Bz,show Bx Jp [s]=Jp s by simp[Bx]];exact TC
theorem Cq.ins{E B WB m0 m1 m2 m3 m4:Nat}{w:World}{c:Cd}{ln st:Int}{u0 u1 u2 u3:Value}{ws:List Bs}{b:Bool}(h:Cq E B m0 m1 m2 m3 m4 w c ln st u0 u1 u2 u3)(hw:CD WB ws b w)(s:Ax)(hl:c.list.length*56<=140737488351232)(ty:TypeId):
 ∃g q w',(Builtin.append_ #[25,25] ty #[u3,.slice (some ⟨w.heap.size,0,none⟩) 1 1]).run prog (w.alloc (.cells (CJ s).toArray 39))=.ok (.slice (some ⟨g,0,none⟩) (c.list.length+1) q) w'/\w'.rowIs B 48 11 (IV u0 u1 u2 u3 (.int .i64 ln) (.int .i64 st) (.map (some m0)) (.map (some m1)) (.map (some m2)) (.map (some m3)) (.map (some m4)))/\Cq E B m0 m1 m2 m3 m4 (w'.setCell ⟨B,3,none⟩ (.slice (some ⟨g,0,none⟩) (c.list.length+1) q)) ⟨c.sign,c.regs,c.slots,c.list++[s]⟩ ln st u0 u1 u2 (.slice (some ⟨g,0,none⟩) (c.list.length+1) q)/\CD WB ws b (w'.setCell ⟨B,3,none⟩ (.slice (some ⟨g,0,none⟩) (c.list.length+1) q))/\Below E w (w'.setCell ⟨B,3,none⟩ (.slice (some ⟨g,0,none⟩) (c.list.length+1) q)):=by
 have hsz:E<=w.heap.size:=by have:=h.le;have:=h.row.lt;omega
 obtain⟨p,q,rfl⟩:=Ac h.own.list;obtain⟨g,c',w',h1,h2,h3,h4⟩:=C6 (t:=25) (e:=39) underlying25 PF rF dE h.own.list hsz (CJ s).toArray rfl (by intro u hu;exact IX s u TE) mL oM ty;have hr:=h.row.of_block (h4 _ h.row.lt (AS h.own.list h.row dE));have k0:=Aa h.own.sign fun b hb=>h4 b (h.own.sign.lt b hb).2 fun e=>Al h.own.sign h.own.list dE b hb e;have k1:=Aa h.own.regs fun b hb=>h4 b (h.own.regs.lt b hb).2 fun e=>Al h.own.regs h.own.list dE b hb e;have k2:=Aa h.own.slots fun b hb=>h4 b (h.own.slots.lt b hb).2 fun e=>Al h.own.slots h.own.list dE b hb e;have km:G7 E w' m0 m1 m2 m3 m4:=h.maps.keep fun C g hm=>h4 C hm.lt (GA h.own.list hm);have hp:=SQ hr (.slice (some ⟨g,0,none⟩) (c.list.length+1) c');obtain⟨T,w1,w2,w3⟩:=hw.row;have hr3:=w3.of_block (h4 _ w3.lt (AS h.own.list w3 dE));have hne:WB≠B:=fun e=>by
  exact W8
 refine⟨g,c',w',h1,hr,⟨h.le,hp.1,⟨An k0 hr dE hp.2,An k1 hr dE hp.2,An k2 hr dE hp.2,?_⟩,km.keep fun C g hm=>hp.2.oth C (hm.no hr)⟩,⟨⟨T,w1,w2,hr3.of_block (hp.2.oth _ hne)⟩,hw.no⟩,h2.trans (hp.2.bel E h.le)⟩;show World.ownsRow _ _ _ _ _ (c.list++[s]).length (Bx CJ (c.list++[s]));rw[List.length_append,List.length_singleton,Bz,show Bx CJ [s]=CJ s by simp[Bx]];exact TC
theorem Cq.par{E B WB m0 m1 m2 m3 m4:Nat}{w:World}{c:Cd}{ln st:Int}{u0 u1 u2 u3:Value}{ws:List Bs}{b:Bool}(h:Cq E B m0 m1 m2 m3 m4 w c ln st u0 u1 u2 u3)(hw:CD WB ws b w)(s:Bc)(hl:c.sign.length*32<=140737488351232)(ty:TypeId):
 ∃g q w',(Builtin.append_ #[22,22] ty #[u0,.slice (some ⟨w.heap.size,0,none⟩) 1 1]).run prog (w.alloc (.cells (AB s).toArray 41))=.ok (.slice (some ⟨g,0,none⟩) (c.sign.length+1) q) w'/\w'.rowIs B 48 11 (IV u0 u1 u2 u3 (.int .i64 ln) (.int .i64 st) (.map (some m0)) (.map (some m1)) (.map (some m2)) (.map (some m3)) (.map (some m4)))/\Cq E B m0 m1 m2 m3 m4 (w'.setCell ⟨B,0,none⟩ (.slice (some ⟨g,0,none⟩) (c.sign.length+1) q)) ⟨c.sign++[s],c.regs,c.slots,c.list⟩ ln st (.slice (some ⟨g,0,none⟩) (c.sign.length+1) q) u1 u2 u3/\CD WB ws b (w'.setCell ⟨B,0,none⟩ (.slice (some ⟨g,0,none⟩) (c.sign.length+1) q))/\Below E w (w'.setCell ⟨B,0,none⟩ (.slice (some ⟨g,0,none⟩) (c.sign.length+1) q)):=by
 have hsz:E<=w.heap.size:=by have:=h.le;have:=h.row.lt;omega
 obtain⟨p,q,rfl⟩:=Ac h.own.sign;obtain⟨g,c',w',h1,h2,h3,h4⟩:=C6 (t:=22) (e:=41) underlying22 If rF dE h.own.sign hsz (AB s).toArray rfl (by intro u hu;exact GV s u TE) mL oM ty;have hr:=h.row.of_block (h4 _ h.row.lt (AS h.own.sign h.row dE));have k1:=Aa h.own.regs fun b hb=>h4 b (h.own.regs.lt b hb).2 fun e=>Al h.own.regs h.own.sign dE b hb e;have k2:=Aa h.own.slots fun b hb=>h4 b (h.own.slots.lt b hb).2 fun e=>Al h.own.slots h.own.sign dE b hb e;have k3:=Aa h.own.list fun b hb=>h4 b (h.own.list.lt b hb).2 fun e=>Al h.own.list h.own.sign dE b hb e;have km:G7 E w' m0 m1 m2 m3 m4:=h.maps.keep fun C g hm=>h4 C hm.lt (GA h.own.sign hm);have hp:=SN hr (.slice (some ⟨g,0,none⟩) (c.sign.length+1) c');obtain⟨T,w1,w2,w3⟩:=hw.row;have hr3:=w3.of_block (h4 _ w3.lt (AS h.own.sign w3 dE));have hne:WB≠B:=fun e=>by
  exact W8
 refine⟨g,c',w',h1,hr,⟨h.le,hp.1,⟨?_,An k1 hr dE hp.2,An k2 hr dE hp.2,An k3 hr dE hp.2⟩,km.keep fun C g hm=>hp.2.oth C (hm.no hr)⟩,⟨⟨T,w1,w2,hr3.of_block (hp.2.oth _ hne)⟩,hw.no⟩,h2.trans (hp.2.bel E h.le)⟩;show World.ownsRow _ _ _ _ _ (c.sign++[s]).length (Bx AB (c.sign++[s]));rw[List.length_append,List.length_singleton,Bz,show Bx AB [s]=AB s by simp[Bx]];exact TC
structure Wr(lo hi:Nat)(w w':World):Prop where
 bel:Below lo w w'
 up:∀b,hi<=b->w'.heap[b]? =w.heap[b]?
theorem Wr.refl(lo hi:Nat)(w:World):Wr lo hi w w:=⟨Below.refl _ _,fun _ _=>rfl⟩
theorem Wr.set{lo hi:Nat}{w w':World}(h:Wr lo hi w w'){g:Nat}(hg:lo<=g/\g<hi)(j:Nat)(u:Value):Wr lo hi w (w'.setCell ⟨g,j,none⟩ u):=⟨h.bel.setCell hg.1 _,fun b hb=>(gE (by show b≠g;omega)).trans (h.up b hb)⟩
theorem Fj{w:World}{B:Nat}{e:TypeId}{k n:Nat}{v:Value}(h:∃xs,w.ownsRow B e k v n xs)(g j:Nat)(u:Value):∃ys,(w.setCell ⟨g,j,none⟩ u).ownsRow B e k v n ys:=by
 obtain⟨xs,h⟩:=h;by_cases hg:v.ownBlock=some g
 .rcases h.2 with⟨rfl,_⟩|⟨g',cap,cur,rfl,_⟩
  .cases hg
  .have e1:g'=g:=Option.some.inj hg;subst e1;exact⟨_,(h.stored j u).1⟩
 .exact⟨xs,Aa h fun b hb=>gE (fun e9=>hg (by rw[hb,e9]))⟩
theorem GU{w:World}{B:Nat}{e:TypeId}{k g n cap:Nat}{xs:List Value}(h:w.ownsRow B e k (.slice (some ⟨g,0,none⟩) n cap) n xs)(j:Nat)(hj:j<n):∀o,o<k->(∃z,w.cell? ⟨g,j*k+o,none⟩=some z)/\w.frozen? ⟨g,j*k+o,none⟩=false:=by
 intro o ho;have h1:j*k+o<n*k:=by
  have:(j+1)*k<=n*k:=Nat.mul_le_mul_right k oM;have e:(j+1)*k=j*k+k:=Nat.succ_mul j k;omega
 have h2:xs.length=n*k:=h.1;exact⟨⟨xs[j*k+o]'oM,by rw[h.cellAt _ h1,gB]⟩,h.frozenAt _⟩
structure R4(B:Nat)(w:World)(u0 u1 u2 u3:Value)(c:Cd):Prop where
 l0:∃xs,w.ownsRow B 41 3 u0 c.sign.length xs
 l1:∃xs,w.ownsRow B 43 2 u1 c.regs.length xs
 l2:∃xs,w.ownsRow B 59 5 u2 c.slots.length xs
 l3:∃xs,w.ownsRow B 39 7 u3 c.list.length xs
theorem R4.set{B:Nat}{w:World}{u0 u1 u2 u3:Value}{c:Cd}(h:R4 B w u0 u1 u2 u3 c)(g j:Nat)(u:Value):R4 B (w.setCell ⟨g,j,none⟩ u) u0 u1 u2 u3 c:=⟨Fj h.l0 g j u,Fj h.l1 g j u,Fj h.l2 g j u,Fj h.l3 g j u⟩
end Go.Proofs.YtjlpkjblkllfbaaGreatDoor
