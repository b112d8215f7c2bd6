import Derived.Test.YtjlpkjblkllfbaaGreatDoorOwn2
import Derived.Test.YtjlpkjblkllfbaaGreatDoorOwn1
namespace Go.Proofs.YtjlpkjblkllfbaaGreatDoor
open Go.RowKit Go.Proofs.Tryz
set_option linter.all false
set_option maxRecDepth 100000
set_option maxHeartbeats 16000000
theorem T8(w:World):Calls prog 56 #[.int .i64 1] w fun e w'=>e=.returned (.tuple #[CA (A5 1),.bool true])/\Below w.heap.size w w':=by
 exact DP
theorem Ta(w:World):Calls prog 56 #[.int .i64 2] w fun e w'=>e=.returned (.tuple #[CA (A5 2),.bool true])/\Below w.heap.size w w':=by
 exact DP
theorem Td(w:World):Calls prog 56 #[.int .i64 3] w fun e w'=>e=.returned (.tuple #[CA (A5 3),.bool true])/\Below w.heap.size w w':=by
 exact DP
theorem Te(w:World):Calls prog 56 #[.int .i64 4] w fun e w'=>e=.returned (.tuple #[CA (A5 4),.bool true])/\Below w.heap.size w w':=by
 exact DP
theorem Tg(w:World):Calls prog 56 #[.int .i64 5] w fun e w'=>e=.returned (.tuple #[CA (A5 5),.bool true])/\Below w.heap.size w w':=by
 exact DP
theorem Th(w:World):Calls prog 56 #[.int .i64 6] w fun e w'=>e=.returned (.tuple #[CA (A5 6),.bool true])/\Below w.heap.size w w':=by
 exact DP
theorem Ti(w:World):Calls prog 56 #[.int .i64 7] w fun e w'=>e=.returned (.tuple #[CA (A5 7),.bool true])/\Below w.heap.size w w':=by
 exact DP
theorem Tj(w:World):Calls prog 56 #[.int .i64 8] w fun e w'=>e=.returned (.tuple #[CA (A5 8),.bool true])/\Below w.heap.size w w':=by
 exact DP
theorem Tl(w:World):Calls prog 56 #[.int .i64 9] w fun e w'=>e=.returned (.tuple #[CA (A5 9),.bool true])/\Below w.heap.size w w':=by
 exact DP
theorem Qz(w:World):Calls prog 56 #[.int .i64 10] w fun e w'=>e=.returned (.tuple #[CA (A5 10),.bool true])/\Below w.heap.size w w':=by
 exact DP
theorem QA(w:World):Calls prog 56 #[.int .i64 11] w fun e w'=>e=.returned (.tuple #[CA (A5 11),.bool true])/\Below w.heap.size w w':=by
 exact DP
theorem QB(w:World):Calls prog 56 #[.int .i64 12] w fun e w'=>e=.returned (.tuple #[CA (A5 12),.bool true])/\Below w.heap.size w w':=by
 exact DP
theorem QL(w:World):Calls prog 56 #[.int .i64 22] w fun e w'=>e=.returned (.tuple #[CA (A5 22),.bool true])/\Below w.heap.size w w':=by
 exact DP
theorem QM(w:World):Calls prog 56 #[.int .i64 23] w fun e w'=>e=.returned (.tuple #[CA (A5 23),.bool true])/\Below w.heap.size w w':=by
 exact DP
theorem QN(w:World):Calls prog 56 #[.int .i64 24] w fun e w'=>e=.returned (.tuple #[CA (A5 24),.bool true])/\Below w.heap.size w w':=by
 exact DP
theorem QO(w:World):Calls prog 56 #[.int .i64 25] w fun e w'=>e=.returned (.tuple #[CA (A5 25),.bool true])/\Below w.heap.size w w':=by
 exact DP
theorem QP(w:World):Calls prog 56 #[.int .i64 26] w fun e w'=>e=.returned (.tuple #[CA (A5 26),.bool true])/\Below w.heap.size w w':=by
 exact DP
theorem QQ(w:World):Calls prog 56 #[.int .i64 27] w fun e w'=>e=.returned (.tuple #[CA (A5 27),.bool true])/\Below w.heap.size w w':=by
 exact DP
theorem QR(w:World):Calls prog 56 #[.int .i64 28] w fun e w'=>e=.returned (.tuple #[CA (A5 28),.bool true])/\Below w.heap.size w w':=by
 exact DP
theorem QS(w:World):Calls prog 56 #[.int .i64 29] w fun e w'=>e=.returned (.tuple #[CA (A5 29),.bool true])/\Below w.heap.size w w':=by
 exact DP
theorem QC(w:World):Calls prog 56 #[.int .i64 13] w fun e w'=>e=.returned (.tuple #[CA (A5 13),.bool true])/\Below w.heap.size w w':=by
 exact DP
theorem QD(w:World):Calls prog 56 #[.int .i64 14] w fun e w'=>e=.returned (.tuple #[CA (A5 14),.bool true])/\Below w.heap.size w w':=by
 exact DP
theorem QE(w:World):Calls prog 56 #[.int .i64 15] w fun e w'=>e=.returned (.tuple #[CA (A5 15),.bool true])/\Below w.heap.size w w':=by
 exact DP
theorem QF(w:World):Calls prog 56 #[.int .i64 16] w fun e w'=>e=.returned (.tuple #[CA (A5 16),.bool true])/\Below w.heap.size w w':=by
 exact DP
theorem QG(w:World):Calls prog 56 #[.int .i64 17] w fun e w'=>e=.returned (.tuple #[CA (A5 17),.bool true])/\Below w.heap.size w w':=by
 exact DP
theorem QH(w:World):Calls prog 56 #[.int .i64 18] w fun e w'=>e=.returned (.tuple #[CA (A5 18),.bool true])/\Below w.heap.size w w':=by
 exact DP
theorem QI(w:World):Calls prog 56 #[.int .i64 19] w fun e w'=>e=.returned (.tuple #[CA (A5 19),.bool true])/\Below w.heap.size w w':=by
 exact DP
theorem QJ(w:World):Calls prog 56 #[.int .i64 20] w fun e w'=>e=.returned (.tuple #[CA (A5 20),.bool true])/\Below w.heap.size w w':=by
 exact DP
theorem QK(w:World):Calls prog 56 #[.int .i64 21] w fun e w'=>e=.returned (.tuple #[CA (A5 21),.bool true])/\Below w.heap.size w w':=by
 exact DP
theorem Ys{α:Type}{l:List α}(h:l.length=3):∃a b c,l=[a,b,c]:=by
 match l,h with
 |[a,b,c],_=>exact⟨a,b,c,rfl⟩
theorem PK{w w':World}{a:Addr}{v:Value}(k:Below w.heap.size w w')(h:w.cell? a=some v):w'.cell? a=some v:=(k.cell (Ad h)).trans h

theorem B4(a b:Bs):A6 a++A6 b=A6 (a++b):=by
 unfold A6;apply ByteArray.ext;simp
theorem BQ(a:Bs):(A6 a).size=a.length:=by rw[<-A9];unfold A6;rw[AZ]
theorem MV(w:World):Calls prog 64 #[.int .i64 13] w fun e w'=>e=.returned (.tuple #[.string ⟨#[100,120,45,45,45]⟩,.bool true])/\w'=w:=by
 exact DQ
theorem MX(w:World):Calls prog 64 #[.int .i64 14] w fun e w'=>e=.returned (.tuple #[.string ⟨#[100,120,45,45,45]⟩,.bool true])/\w'=w:=by
 exact DQ
theorem MY(w:World):Calls prog 64 #[.int .i64 15] w fun e w'=>e=.returned (.tuple #[.string ⟨#[100,120,120,120,45]⟩,.bool true])/\w'=w:=by
 exact DQ
theorem MZ(w:World):Calls prog 64 #[.int .i64 16] w fun e w'=>e=.returned (.tuple #[.string ⟨#[110,110,119,45,45]⟩,.bool true])/\w'=w:=by
 exact DQ
theorem N4(w:World):Calls prog 64 #[.int .i64 17] w fun e w'=>e=.returned (.tuple #[.string ⟨#[110,119,45,45,45]⟩,.bool true])/\w'=w:=by
 exact DQ
theorem N5(w:World):Calls prog 64 #[.int .i64 18] w fun e w'=>e=.returned (.tuple #[.string ⟨#[119,110,45,45,45]⟩,.bool true])/\w'=w:=by
 exact DQ
theorem N6(w:World):Calls prog 64 #[.int .i64 19] w fun e w'=>e=.returned (.tuple #[.string ⟨#[110,118,45,45,45]⟩,.bool true])/\w'=w:=by
 exact DQ
theorem N7(w:World):Calls prog 64 #[.int .i64 20] w fun e w'=>e=.returned (.tuple #[.string ⟨#[110,118,45,45,45]⟩,.bool true])/\w'=w:=by
 exact DQ
theorem N8(w:World):Calls prog 64 #[.int .i64 21] w fun e w'=>e=.returned (.tuple #[.string ⟨#[119,119,45,45,45]⟩,.bool true])/\w'=w:=by
 exact DQ
end Go.Proofs.YtjlpkjblkllfbaaGreatDoor
