import Derived.Test.YtjglaibglofddaaSum15
import Derived.Test.YtjglaibglofddaaSum14
import Derived.Test.YtjglaibglofddaaSum16
import Derived.Test.YtjglaibglofddaaSum3
import Derived.Test.YtjglaibglofddaaSum13
import Derived.Deep.DeepCutAuto
import Derived.Test.YtjglaibglofddaaSum1
namespace Go.Proofs.Ytjglaibglofddaa
open Go.RowKit Go.Proofs.Try
set_option linter.all false
set_option maxRecDepth 100000
set_option maxHeartbeats 16000000



theorem By{w:World}{B:Nat}{t t':TypeId}{k n n' b:Nat}{v:Value}{xs:List Value}{f:Nat->Value}(h:w.ownsRow B t k v n xs)(h':w.rowIs b t' n' f)(ht:t≠t'):v.ownBlock≠some b:=by
 intro hb;rcases h.2 with⟨rfl,_⟩|⟨g,cap,cur,rfl,_,hg,_⟩
 .exact absurd (show(none:Option Nat)=some b from hb) sM
 obtain⟨c,hc,-⟩:=h';have e1:g=b:=Option.some.inj hb;rw[e1,hc]at hg;simp only[Option.some.injEq,Obj.cells.injEq]at hg;exact ht hg.2.1.symm
theorem I3{V:World}{C:Nat}{t:TypeId}{v0 v1 v2 v3:Value}(rc:V.rowIs C t 4 (f4 v0 v1 v2 v3))(v:Value):(V.setCell ⟨C,2,none⟩ v).rowIs C t 4 (f4 v0 v1 v v3)/\Dj C V (V.setCell ⟨C,2,none⟩ v):=by
 refine⟨(rc.set 2 v).congr fun j hj=>?_,Dj.one C 2 V v⟩;exact HY
theorem GW{V:World}{C:Nat}{t:TypeId}{v0 v1 v2 v3:Value}(rc:V.rowIs C t 4 (f4 v0 v1 v2 v3))(v:Value):(V.setCell ⟨C,3,none⟩ v).rowIs C t 4 (f4 v0 v1 v2 v)/\Dj C V (V.setCell ⟨C,3,none⟩ v):=by
 refine⟨(rc.set 3 v).congr fun j hj=>?_,Dj.one C 3 V v⟩;exact HY
structure C5(E DB:Nat)(w:World)(c:Cd)(u0 u1 u2 u3:Value):Prop where
 le:E<=DB
 row:w.rowIs DB 27 4 (f4 u0 u1 u2 u3)
 own:GG E w u0 u1 u2 u3 c
theorem C5.sz{E DB:Nat}{w:World}{c:Cd}{u0 u1 u2 u3:Value}(h:C5 E DB w c u0 u1 u2 u3):E<=w.heap.size:=by have:=h.le;have:=h.row.lt;omega
theorem C5.cdv{E DB:Nat}{w:World}{c:Cd}{u0 u1 u2 u3:Value}(h:C5 E DB w c u0 u1 u2 u3):CU w u0 u1 u2 u3 c:=⟨Bb Bz h.own.sign,Bb BY h.own.regs,Bb Co h.own.slots,Bb Ba h.own.list⟩
theorem Ag{w w':World}{B C:Nat}{t t':TypeId}{k n n':Nat}{v:Value}{xs:List Value}{f:Nat->Value}(h:w.ownsRow B t k v n xs)(h':w.rowIs C t' n' f)(ht:t≠t')(p:Dj C w w'):w'.ownsRow B t k v n xs:=
 Ab h fun g hg=>p.oth g fun e=>By h h' ht (e▸hg)
theorem C5.slot{E DB:Nat}{w:World}{c:Cd}{u0 u1 u2 u3:Value}(h:C5 E DB w c u0 u1 u2 u3)(s:Sl)(hl:c.slots.length*32<=140737488351232)(ty:TypeId):
 ∃g q w',(Builtin.append_ #[24,24] ty #[u2,.slice (some ⟨w.heap.size,0,none⟩) 1 1]).run prog (w.alloc (.cells (Ex s).toArray 51))=.ok (.slice (some ⟨g,0,none⟩) (c.slots.length+1) q) w'/\w'.rowIs DB 27 4 (f4 u0 u1 u2 u3)/\C5 E DB (w'.setCell ⟨DB,2,none⟩ (.slice (some ⟨g,0,none⟩) (c.slots.length+1) q)) ⟨c.sign,c.regs,c.slots++[s],c.list⟩ u0 u1 (.slice (some ⟨g,0,none⟩) (c.slots.length+1) q) u3/\Below E w (w'.setCell ⟨DB,2,none⟩ (.slice (some ⟨g,0,none⟩) (c.slots.length+1) q)):=by
 obtain⟨p,q,rfl⟩:=Ac h.own.slots;obtain⟨g,c',w',h1,h2,h3,h4⟩:=Dr (t:=24) (e:=51) underlying24 D7 rF dE h.own.slots h.sz (Ex s).toArray rfl (by intro u hu;exact Ey s u (by simpa using hu)) mL oM ty;have hr:=h.row.of_block (h4 _ h.row.lt (By h.own.slots h.row dE));have k0:=Ab h.own.sign fun b hb=>h4 b (h.own.sign.lt b hb).2 fun e=>Ap h.own.sign h.own.slots dE b hb e;have k1:=Ab h.own.regs fun b hb=>h4 b (h.own.regs.lt b hb).2 fun e=>Ap h.own.regs h.own.slots dE b hb e;have k3:=Ab h.own.list fun b hb=>h4 b (h.own.list.lt b hb).2 fun e=>Ap h.own.list h.own.slots dE b hb e;have hp:=I3 hr (.slice (some ⟨g,0,none⟩) (c.slots.length+1) c');refine⟨g,c',w',h1,hr,⟨h.le,hp.1,Ag k0 hr dE hp.2,Ag k1 hr dE hp.2,?_,Ag k3 hr dE hp.2⟩,h2.trans (hp.2.bel E h.le)⟩;show World.ownsRow _ _ _ _ _ (c.slots++[s]).length (Aq Ex (c.slots++[s]));rw[List.length_append,List.length_singleton,B8,show Aq Ex [s]=Ex s by simp[Aq]];exact Ag (by simpa using h3) hr dE hp.2
theorem C5.reg{E DB:Nat}{w:World}{c:Cd}{u0 u1 u2 u3:Value}(h:C5 E DB w c u0 u1 u2 u3)(s:Ty)(hl:c.regs.length*16<=140737488351232)(ty:TypeId):
 ∃g q w',(Builtin.append_ #[23,23] ty #[u1,.slice (some ⟨w.heap.size,0,none⟩) 1 1]).run prog (w.alloc (.cells (DV s).toArray 47))=.ok (.slice (some ⟨g,0,none⟩) (c.regs.length+1) q) w'/\w'.rowIs DB 27 4 (f4 u0 u1 u2 u3)/\C5 E DB (w'.setCell ⟨DB,1,none⟩ (.slice (some ⟨g,0,none⟩) (c.regs.length+1) q)) ⟨c.sign,c.regs++[s],c.slots,c.list⟩ u0 (.slice (some ⟨g,0,none⟩) (c.regs.length+1) q) u2 u3/\Below E w (w'.setCell ⟨DB,1,none⟩ (.slice (some ⟨g,0,none⟩) (c.regs.length+1) q)):=by
 obtain⟨p,q,rfl⟩:=Ac h.own.regs;obtain⟨g,c',w',h1,h2,h3,h4⟩:=Dr (t:=23) (e:=47) underlying23 D8 rF dE h.own.regs h.sz (DV s).toArray rfl (by intro u hu;exact EE s u (by simpa using hu)) mL oM ty;have hr:=h.row.of_block (h4 _ h.row.lt (By h.own.regs h.row dE));have k0:=Ab h.own.sign fun b hb=>h4 b (h.own.sign.lt b hb).2 fun e=>Ap h.own.sign h.own.regs dE b hb e;have k2:=Ab h.own.slots fun b hb=>h4 b (h.own.slots.lt b hb).2 fun e=>Ap h.own.slots h.own.regs dE b hb e;have k3:=Ab h.own.list fun b hb=>h4 b (h.own.list.lt b hb).2 fun e=>Ap h.own.list h.own.regs dE b hb e;have hp:=GX hr (.slice (some ⟨g,0,none⟩) (c.regs.length+1) c');refine⟨g,c',w',h1,hr,⟨h.le,hp.1,Ag k0 hr dE hp.2,?_,Ag k2 hr dE hp.2,Ag k3 hr dE hp.2⟩,h2.trans (hp.2.bel E h.le)⟩;show World.ownsRow _ _ _ _ _ (c.regs++[s]).length (Aq DV (c.regs++[s]));rw[List.length_append,List.length_singleton,B8,show Aq DV [s]=DV s by simp[Aq]];exact Ag (by simpa using h3) hr dE hp.2
theorem C5.ins{E DB:Nat}{w:World}{c:Cd}{u0 u1 u2 u3:Value}(h:C5 E DB w c u0 u1 u2 u3)(s:Au)(hl:c.list.length*56<=140737488351232)(ty:TypeId):
 ∃g q w',(Builtin.append_ #[25,25] ty #[u3,.slice (some ⟨w.heap.size,0,none⟩) 1 1]).run prog (w.alloc (.cells (B9 s).toArray 53))=.ok (.slice (some ⟨g,0,none⟩) (c.list.length+1) q) w'/\w'.rowIs DB 27 4 (f4 u0 u1 u2 u3)/\C5 E DB (w'.setCell ⟨DB,3,none⟩ (.slice (some ⟨g,0,none⟩) (c.list.length+1) q)) ⟨c.sign,c.regs,c.slots,c.list++[s]⟩ u0 u1 u2 (.slice (some ⟨g,0,none⟩) (c.list.length+1) q)/\Below E w (w'.setCell ⟨DB,3,none⟩ (.slice (some ⟨g,0,none⟩) (c.list.length+1) q)):=by
 obtain⟨p,q,rfl⟩:=Ac h.own.list;obtain⟨g,c',w',h1,h2,h3,h4⟩:=Dr (t:=25) (e:=53) underlying25 BE rF dE h.own.list h.sz (B9 s).toArray rfl (by intro u hu;exact Dn s u (by simpa using hu)) mL oM ty;have hr:=h.row.of_block (h4 _ h.row.lt (By h.own.list h.row dE));have k0:=Ab h.own.sign fun b hb=>h4 b (h.own.sign.lt b hb).2 fun e=>Ap h.own.sign h.own.list dE b hb e;have k1:=Ab h.own.regs fun b hb=>h4 b (h.own.regs.lt b hb).2 fun e=>Ap h.own.regs h.own.list dE b hb e;have k2:=Ab h.own.slots fun b hb=>h4 b (h.own.slots.lt b hb).2 fun e=>Ap h.own.slots h.own.list dE b hb e;have hp:=GW hr (.slice (some ⟨g,0,none⟩) (c.list.length+1) c');refine⟨g,c',w',h1,hr,⟨h.le,hp.1,Ag k0 hr dE hp.2,Ag k1 hr dE hp.2,Ag k2 hr dE hp.2,?_⟩,h2.trans (hp.2.bel E h.le)⟩;show World.ownsRow _ _ _ _ _ (c.list++[s]).length (Aq B9 (c.list++[s]));rw[List.length_append,List.length_singleton,B8,show Aq B9 [s]=B9 s by simp[Aq]];exact Ag (by simpa using h3) hr dE hp.2
theorem C5.bare{E DB:Nat}{w:World}{c:Cd}{u0 u1 u2 u3:Value}(h:C5 E DB w c u0 u1 u2 u3):C5 E DB (w.setCell ⟨DB,3,none⟩ (.slice none 0 0)) ⟨c.sign,c.regs,c.slots,[]⟩ u0 u1 u2 (.slice none 0 0)/\Below E w (w.setCell ⟨DB,3,none⟩ (.slice none 0 0)):=by
 have hp:=GW h.row (.slice none 0 0);exact⟨⟨h.le,hp.1,Ag h.own.sign h.row dE hp.2,Ag h.own.regs h.row dE hp.2,Ag h.own.slots h.row dE hp.2,⟨rfl,.inl ⟨rfl,rfl⟩⟩⟩,hp.2.bel E h.le⟩
theorem C5.more{E DB:Nat}{w:World}{c:Cd}{u0 u1 u2 u3:Value}(h:C5 E DB w c u0 u1 u2 u3){m:List Au}{x:Option Addr}{d:Nat}(hr0:AQ 7 B9 w (.slice x m.length d) m)(hl:(c.list.length+m.length)*56<=140737488351232):
 ∃p' q w',(Builtin.append_ #[25,25] 25 #[u3,.slice x m.length d]).run prog w=.ok (.slice p' (c.list.length+m.length) q) w'/\w'.rowIs DB 27 4 (f4 u0 u1 u2 u3)/\C5 E DB (w'.setCell ⟨DB,3,none⟩ (.slice p' (c.list.length+m.length) q)) ⟨c.sign,c.regs,c.slots,c.list++m⟩ u0 u1 u2 (.slice p' (c.list.length+m.length) q)/\Below E w (w'.setCell ⟨DB,3,none⟩ (.slice p' (c.list.length+m.length) q)):=by
 obtain⟨p,q,rfl⟩:=Ac h.own.list;obtain⟨p',c',w',h1,h2,h3,h4⟩:=GN h.own.list hr0 h.sz hl;have hr:=h.row.of_block (h4 _ h.row.lt (By h.own.list h.row dE));have k0:=Ab h.own.sign fun b hb=>h4 b (h.own.sign.lt b hb).2 fun e=>Ap h.own.sign h.own.list dE b hb e;have k1:=Ab h.own.regs fun b hb=>h4 b (h.own.regs.lt b hb).2 fun e=>Ap h.own.regs h.own.list dE b hb e;have k2:=Ab h.own.slots fun b hb=>h4 b (h.own.slots.lt b hb).2 fun e=>Ap h.own.slots h.own.list dE b hb e;have hp:=GW hr (.slice p' (c.list.length+m.length) c');exact⟨p',c',w',h1,hr,⟨h.le,hp.1,Ag k0 hr dE hp.2,Ag k1 hr dE hp.2,Ag k2 hr dE hp.2,Ag h3 hr dE hp.2⟩,h2.trans (hp.2.bel E h.le)⟩
end Go.Proofs.Ytjglaibglofddaa
