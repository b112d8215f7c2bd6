import Derived.Test.YtnbccaicijcklaaTks25
import Derived.Test.YtnbccaicijcklaaTks15
import Derived.Deep.DeepCutAuto
import Derived.Test.YtnbccaicijcklaaTks17
import Derived.Test.YtnbccaicijcklaaTks19
import Derived.Test.YtnbccaicijcklaaTks23
import Derived.Test.YtnbccaicijcklaaTks16
import Derived.Test.YtnbccaicijcklaaTks1
namespace Go.Proofs.Ytnbccaicijcklaa
open Go.RowKit Go.Proofs.Try
set_option linter.all false
set_option maxRecDepth 100000
set_option maxHeartbeats 16000000
structure ER(E:Nat)(w:World)(l:List Aa)(K N R S IB RB SB MB:Nat)(fm:Nat->Value)(s:Rf)(v:World):Prop where
 bel:Below E w v
 is:v.rowIs IB 4 N (fun j=>.bool (s.is j))
 reg:v.rowIs RB 4 R (fun j=>.bool (s.reg j))
 slot:v.rowIs SB 4 S (fun j=>.bool (s.slot j))
 mr:v.rowIs MB 61 N fm
 ms:∀i,i<K->v.ownsRow E 3 1 (fm i) (AC l i l.length).length (AV (AC l i l.length))
 ne:IB≠RB/\IB≠SB/\RB≠SB
 ge:E<=IB/\E<=RB/\E<=SB/\E<=MB
 le:E<=v.heap.size
structure Fs(E:Nat)(w:World)(l:List Aa)(K N R S IB RB SB MB:Nat)(fm:Nat->Value)(X:Nat)(bx:Nat->Value)(rv:Value)(rs:List Int)(s:Rf)(v:World):Prop where
 m:ER E w l K N R S IB RB SB MB fm s v
 x:v.rowIs X 40 7 bx
 rr:v.ownsRow E 3 1 rv rs.length (B2 rs)
section
variable {E : Nat} {w : World} {l : List Aa} {K N R S IB RB SB MB : Nat} {fm : Nat -> Value} {s : Rf} {v v' : World} {X : Nat} {bx : Nat -> Value} {rv : Value} {rs : List Int}
theorem ER.below(h:ER E w l K N R S IB RB SB MB fm s v)(hb:Below v.heap.size v v'):ER E w l K N R S IB RB SB MB fm s v':=
 ⟨h.bel.trans (hb.mono h.le),h.is.of_block (hb.block _ h.is.lt),h.reg.of_block (hb.block _ h.reg.lt),h.slot.of_block (hb.block _ h.slot.lt),h.mr.of_block (hb.block _ h.mr.lt),fun i hi=>Ac (h.ms i hi) hb,h.ne,h.ge,Nat.le_trans h.le hb.size⟩
theorem Fs.below(h:Fs E w l K N R S IB RB SB MB fm X bx rv rs s v)(hb:Below v.heap.size v v'):Fs E w l K N R S IB RB SB MB fm X bx rv rs s v':=⟨h.m.below hb,h.x.of_block (hb.block _ h.x.lt),Ac h.rr hb⟩
theorem Fs.drop(h:Fs E w l K N R S IB RB SB MB fm X bx rv rs s v):Fs E w l K N R S IB RB SB MB fm X bx (.slice none 0 0) [] s v:=⟨h.m,h.x,World.ownsRow_nil _ _ _ 1⟩
theorem FZ{f:Nat->Bool}{b n k:Nat}(h:v.rowIs b 4 n (fun j=>.bool (f j))):(v.setCell ⟨b,k,none⟩ (.bool true)).rowIs b 4 n (fun j=>.bool (CI f k j)):=(h.set k _).congr fun j _=>by unfold CI;split<;>rfl
theorem E3{b n k:Nat}{e:TypeId}{sz m:Nat}{u:Value}{xs:List Value}{f:Nat->Value}{z:Value}(h:v.ownsRow E e sz u m xs)(hr:v.rowIs b 4 n f)(ht:e≠4):(v.setCell ⟨b,k,none⟩ z).ownsRow E e sz u m xs:=A7 h fun g hg=>Below.heap_setCell _ _ _ _ (fun q=>AF h hr ht (hg.trans (congrArg some q)))
theorem ER.setI(h:ER E w l K N R S IB RB SB MB fm s v)(k:Nat):ER E w l K N R S IB RB SB MB fm ⟨CI s.is k,s.reg,s.slot⟩ (v.setCell ⟨IB,k,none⟩ (.bool true)):=
 ⟨h.bel.setCell h.ge.1 _,FZ h.is,h.reg.setOther h.ne.1.symm _,h.slot.setOther h.ne.2.1.symm _,h.mr.setOther (Bd h.mr h.is dE) _,fun i hi=>E3 (h.ms i hi) h.is dE,h.ne,h.ge,by simpa using h.le⟩
theorem ER.setR(h:ER E w l K N R S IB RB SB MB fm s v)(k:Nat):ER E w l K N R S IB RB SB MB fm ⟨s.is,CI s.reg k,s.slot⟩ (v.setCell ⟨RB,k,none⟩ (.bool true)):=
 ⟨h.bel.setCell h.ge.2.1 _,h.is.setOther h.ne.1 _,FZ h.reg,h.slot.setOther h.ne.2.2.symm _,h.mr.setOther (Bd h.mr h.reg dE) _,fun i hi=>E3 (h.ms i hi) h.reg dE,h.ne,h.ge,by simpa using h.le⟩
theorem ER.setS(h:ER E w l K N R S IB RB SB MB fm s v)(k:Nat):ER E w l K N R S IB RB SB MB fm ⟨s.is,s.reg,CI s.slot k⟩ (v.setCell ⟨SB,k,none⟩ (.bool true)):=
 ⟨h.bel.setCell h.ge.2.2.1 _,h.is.setOther h.ne.2.1 _,h.reg.setOther h.ne.2.2 _,FZ h.slot,h.mr.setOther (Bd h.mr h.slot dE) _,fun i hi=>E3 (h.ms i hi) h.slot dE,h.ne,h.ge,by simpa using h.le⟩
theorem Fs.setI(h:Fs E w l K N R S IB RB SB MB fm X bx rv rs s v)(k:Nat):Fs E w l K N R S IB RB SB MB fm X bx rv rs ⟨CI s.is k,s.reg,s.slot⟩ (v.setCell ⟨IB,k,none⟩ (.bool true)):=⟨h.m.setI k,h.x.setOther (Bd h.x h.m.is dE) _,E3 h.rr h.m.is dE⟩
theorem Fs.setR(h:Fs E w l K N R S IB RB SB MB fm X bx rv rs s v)(k:Nat):Fs E w l K N R S IB RB SB MB fm X bx rv rs ⟨s.is,CI s.reg k,s.slot⟩ (v.setCell ⟨RB,k,none⟩ (.bool true)):=⟨h.m.setR k,h.x.setOther (Bd h.x h.m.reg dE) _,E3 h.rr h.m.reg dE⟩
theorem ER.mark(h:ER E w l K N R S IB RB SB MB fm s v){u:Value}(hu:v.ownsRow E 3 1 u (AC l K l.length).length (AV (AC l K l.length))):ER E w l (K+1) N R S IB RB SB MB (fun j=>if j=K then u else fm j) s (v.setCell ⟨MB,K,none⟩ u):=by
 have off:∀ {m:Nat} {q:Value} {xs:List Value},v.ownsRow E 3 1 q m xs->(v.setCell ⟨MB,K,none⟩ u).ownsRow E 3 1 q m xs:=fun h9=>A7 h9 fun g hg=>Below.heap_setCell _ _ _ _ (fun q=>AF h9 h.mr dE (hg.trans (congrArg some q)));refine⟨h.bel.setCell h.ge.2.2.2 _,h.is.setOther (Bd h.is h.mr dE) _,h.reg.setOther (Bd h.reg h.mr dE) _,h.slot.setOther (Bd h.slot h.mr dE) _,h.mr.set K u,fun i hi=>?_,h.ne,h.ge,by simpa using h.le⟩;by_cases e:i=K
 ·rw[if_pos e,e];exact off hu
 ·rw[if_neg e];exact off (h.ms i oM)
end
theorem G8(i:Aa):Iu i=Ad i:=by
 unfold Iu Ad;cases h:((A4 i.op).d != 0)with
 |false=>
  have:(A4 i.op).d=0:=by simpa using h
  simp[this]
 |true=>
  have:(A4 i.op).d≠0:=by simpa using h
  simp[this]
def Rt:Option Value->Bool
 |some (.bool true)=>true
 |_=>false
def Mf:Value->Nat
 | .bool true=>1
 |_=>0
def QO(N IB:Nat)(w:World):Nat:=((List.range N).filter fun p=> !(Rt (w.cell? ⟨IB,p,none⟩))).length
theorem Mg{N IB:Nat}{w:World}{s:Rf}(h:w.rowIs IB 4 N (fun j=>.bool (s.is j))):QO N IB w=Bv N s:=by
 unfold QO Bv;rw[List.filter_congr fun p hp=>?_];rw[h.cell (List.mem_range.1 hp)];cases s.is p<;>rfl
theorem EG{c:Cd}(hc:(Ah c).1=0){k:Nat}(hk:k<c.list.length):∀r∈A9 c.list[k] (A4 c.list[k].op),0<=r/\r<(c.regs.length:Int):=fun r hr=>by
 obtain⟨h1,h2,h3⟩:=B8.1 hc;obtain⟨t1,t2,t3,t4⟩:=AG (BH h2 hk);exact S3
theorem FA{c:Cd}(hc:(Ah c).1=0){k:Nat}(hk:k<c.list.length)(hs:Ad c.list[k]=true):0<=c.list[k].d/\c.list[k].d<(c.regs.length:Int):=by
 obtain⟨h1,h2,h3⟩:=B8.1 hc;obtain⟨t1,t2,t3,t4⟩:=AG (BH h2 hk);unfold Ad at hs;exact Al (CF t2) (by simpa using hs)
theorem H9(v0 v1 v2 v3:Value)(c:Cd)(hc:(Ah c).1=0)(hR:c.regs.length<=16384)(hS:c.slots.length<=4096)(hL:c.list.length<=32768)(w:World)(hv:BP w v0 v1 v2 v3 c):
 Calls prog 18 #[.agg #[v0,v1,v2,v3]] w fun e w'=>∃IB,e=.returned (.slice (some ⟨IB,0,none⟩) c.list.length c.list.length)/\w'.rowIs IB 4 c.list.length (fun j=>.bool (ndK c.list j))/\w.heap.size<=IB/\Below w.heap.size w w':=by
 have HRD:=A2 (fun k (hk:k<c.list.length)=>EG hc hk);have HSD:=A2 (fun k (hk:k<c.list.length) hs=>FA hc hk hs);have HSL:=A2 (fun k (hk:k<c.list.length) o=>CK hc hk o);have HFN:=A2 (fun(s:Rf) (h:RI c.list s) k (hk:k<c.list.length) wt=>RI.found hc h hk wt);have HDN:=A2 (fun(s:Rf) (h:RI c.list s) hw k=>RI.done hc h hw k);have HME:Hid (∀i,i<c.list.length->∀m∈AC c.list i c.list.length,m<c.list.length):=fun i hi m hm=>by
  obtain⟨b,e,h1,h2,h3,h4,h5⟩:=(Ca _ (Nat.le_refl _)).1 hm;obtain⟨_,_,_,h6,_⟩:=B7 h2;rcases h5 with q|q<;>omega
 have HVL:=A2 hv.list;have KE:=A2 (fun(p:Nat) (v:World) (p3:Option Addr) (q3:Nat) (hl:AR 7 Bf v (.slice p3 c.list.length q3) c.list)=>IR c hc p v p3 q3 hL hl);obtain⟨p1,q1,rfl⟩:∃p q,v1=.slice p c.regs.length q:=by obtain⟨p,q,e,_⟩:=hv.regs;exact⟨p,q,e⟩
 obtain⟨p2,q2,rfl⟩:∃p q,v2=.slice p c.slots.length q:=by obtain⟨p,q,e,_⟩:=hv.slots;exact⟨p,q,e⟩
 obtain⟨p3,q3,rfl⟩:∃p q,v3=.slice p c.list.length q:=by obtain⟨p,q,e,_⟩:=hv.list;exact⟨p,q,e⟩
 obtain⟨R,hRe⟩:∃N,c.regs.length=N:=⟨_,rfl⟩
 obtain⟨S,hSe⟩:∃N,c.slots.length=N:=⟨_,rfl⟩
 obtain⟨N,hNe⟩:∃N,c.list.length=N:=⟨_,rfl⟩
 have HNN:=A2 hNe;have HEL:Hid (∀i,(AC c.list i c.list.length).length<=2*N):=fun i=>by rw[←hNe];exact FI i _
 simp only[hRe]at HRD HSD hR ⊢;simp only[hSe]at HSL hS ⊢;simp only[hNe]at HVL KE hL ⊢;obtain⟨E,hE⟩:∃E,w.heap.size=E:=⟨_,rfl⟩
 have HE:=A2 hE;rw[hE];obtain⟨W0,hW0⟩:∃W,w.alloc (.cells #[v0,.slice p1 R q1,.slice p2 S q2,.slice p3 N q3] 27)=W:=⟨_,rfl⟩
 have hs0:W0.heap.size=E+1:=by rw[←hW0];simp[hE]
 have c1:W0.cell? ⟨E,1,none⟩=some (.slice p1 R q1):=by rw[←hW0,←hE];simp[go_sem]
 have c2:W0.cell? ⟨E,2,none⟩=some (.slice p2 S q2):=by rw[←hW0,←hE];simp[go_sem]
 have c3:W0.cell? ⟨E,3,none⟩=some (.slice p3 N q3):=by rw[←hW0,←hE];simp[go_sem]
 have hb0:Below E w W0:=by rw[←hW0,←hE];exact A0 _ _
 obtain⟨W1,hW1⟩:∃W,W0.alloc (.cells (madeCells #[.bool false] N) 4)=W:=⟨_,rfl⟩
 obtain⟨W2,hW2⟩:∃W,W1.alloc (.cells (madeCells #[.bool false] R) 4)=W:=⟨_,rfl⟩
 obtain⟨W3,hW3⟩:∃W,W2.alloc (.cells (madeCells #[.bool false] S) 4)=W:=⟨_,rfl⟩
 obtain⟨W4,hW4⟩:∃W,W3.alloc (.cells (madeCells #[.slice none 0 0] N) 61)=W:=⟨_,rfl⟩
 have hs1:W1.heap.size=E+2:=by rw[←hW1];simp[hs0]
 have hs2:W2.heap.size=E+3:=by rw[←hW2];simp[hs1]
 have hs3:W3.heap.size=E+4:=by rw[←hW3];simp[hs2]
 have hs4:W4.heap.size=E+5:=by rw[←hW4];simp[hs3]
 have k1:Below W0.heap.size W0 W1:=by rw[←hW1];exact A0 _ _
 have k2:Below W1.heap.size W1 W2:=by rw[←hW2];exact A0 _ _
 have k3:Below W2.heap.size W2 W3:=by rw[←hW3];exact A0 _ _
 have k4:Below W3.heap.size W3 W4:=by rw[←hW4];exact A0 _ _
 have d2:=kc k1 c1;have d3:=kc k1 c2;have d4:=kc k2 d3;have d5:=kc k3 d4;have HM0:Hid (ER E w c.list 0 N R S (E+1) (E+2) (E+3) (E+4) (fun _=>.slice none 0 0) ⟨fun _=>false,fun _=>false,fun _=>false⟩ W4):=by
  have r1:W1.rowIs (E+1) 4 N (fun _=>.bool false):=by rw[←hW1,←hs0];exact World.rowIs_made W0 _ _ _
  have r2:W2.rowIs (E+2) 4 R (fun _=>.bool false):=by rw[←hW2,←hs1];exact World.rowIs_made W1 _ _ _
  have r3:W3.rowIs (E+3) 4 S (fun _=>.bool false):=by rw[←hW3,←hs2];exact World.rowIs_made W2 _ _ _
  have r4:W4.rowIs (E+4) 61 N (fun _=>.slice none 0 0):=by rw[←hW4,←hs3];exact World.rowIs_made W3 _ _ _
  have b34:=bel k3 k4;have b24:=bel k2 b34;exact⟨hb0.trans ((bel k1 b24).mono oM),r1.of_block (b24.block _ r1.lt),r2.of_block (b34.block _ r2.lt),r3.of_block (k4.block _ r3.lt),r4,fun i hi=>absurd hi oM,⟨oM,oM,oM⟩,⟨oM,oM,oM,oM⟩,oM⟩
 have m1:=fun v=>DG N oM v;have m2:=fun v=>DG R oM v;have m3:=fun v=>DG S oM v;have m4:=fun v=>GX N oM v;clear hv hc hRe hSe hNe hb0 k1 k2 k3 k4;go_enter func18,ntmps18;go_upto_region 1 with fail;try rw[hW0]
 try rw[hE]
 go_upto_region 3 with fail;try rw[hW1]
 try rw[hs0]
 go_upto_region 4 with fail;try rw[hW2]
 try rw[hs1]
 go_upto_region 5 with fail;try rw[hW3]
 try rw[hs2]
 go_upto_region 6 with fail;try rw[hW4]
 try rw[hs3]
 clear m1 m2 m3 m4 hW0 hW1 hW2 hW3 hW4 hs0 hs1 hs2 hs3 hs4 c1 c2 c3 d2 d3 d4 d5 hE;obtain⟨IB,hIB⟩:∃b,E+1=b:=⟨_,rfl⟩
 obtain⟨RB,hRB⟩:∃b,E+2=b:=⟨_,rfl⟩
 obtain⟨SB,hSB⟩:∃b,E+3=b:=⟨_,rfl⟩
 obtain⟨MB,hMB⟩:∃b,E+4=b:=⟨_,rfl⟩
 try simp only[show E+1+1=E+2 from rfl,show E+1+1+1=E+3 from rfl,show E+1+1+1+1=E+4 from rfl]
 rw[hIB,hRB,hSB,hMB]at HM0;rw[hIB,hRB,hSB,hMB];clear hIB hRB hSB hMB;have HLR:Hid (∀v,Below E w v->AR 7 Bf v (.slice p3 N q3) c.list):=fun v hb=>HVL.out.below (by rw[HE.out];exact hb);clear HVL;go_wp2
 go_loopw [8] (fun iv wx=>∃ (k:Nat) (fm:Nat->Value),k<=N/\iv=.int .i64 (k:Int)/\Hid (ER E w c.list k N R S IB RB SB MB fm ⟨fun _=>false,fun _=>false,fun _=>false⟩ wx)) (fun iv _=>N-(intOf iv).toNat)
 case atStart=>exact⟨0,_,Nat.zero_le _,rfl,HM0.out⟩
 case round=>
  clear HM0;rename World=>wa;obtain⟨k,fm,hk,rfl,HJ⟩:=hrel;by_cases hlt:k<N
  ·have KEE:=A2 (KE.out k wa p3 q3 (HLR.out wa HJ.out.bel));have HST:Hid (∀v u,Below wa.heap.size wa v->v.ownsRow wa.heap.size 3 1 u (AC c.list k N).length (AV (AC c.list k N))->ER E w c.list (k+1) N R S IB RB SB MB (fun j=>if j=k then u else fm j) ⟨fun _=>false,fun _=>false,fun _=>false⟩ (v.setCell ⟨MB,k,none⟩ u)/\v.cell? ⟨MB,k,none⟩=some (fm k)/\v.frozen? ⟨MB,k,none⟩=false):=fun v u hb ho=>by
    have h9:=HJ.out.below hb;refine⟨h9.mark (AM (by rw[HNN.out];exact ho) HJ.out.le),h9.mr.cell hlt,h9.mr.frozen k⟩
   have i1:(0:Int)<=(k:Int):=oM;have i2:(k:Int)<(N:Int):=oM;have wi:IntKind.i64.wrap ((k:Int)+1)=((k+1:Nat):Int):=by rw[IntKind.wrap_i64];omega
   clear HJ KE;go_wp2_with(go_at_call 36;(with_reducible refine(KEE.out).mono ?_);rintro e9 w4 ⟨u,rfl,ho4,hb4⟩;obtain⟨pu,qu,rfl⟩:=Ao ho4;obtain⟨hn4,e4,f4⟩:=HST.out w4 _ hb4 ho4;have HN4:=A2 hn4;clear hn4 ho4 hb4);go_roundw
   case rel=>exact⟨k+1,_,oM,gN,HN4.out⟩
   case measure=>simp[intOf];omega
  ·have e9:¬ (k:Int)<(N:Int):=oM;have hke:k=N:=oM;subst hke;have HS0:=A2 HJ.out;clear hlt HJ hk;rename Nat=>N;go_wp2
   go_loopw [9] (fun mv wx=>∃ (m:Bool) (s:Rf),mv=.bool m/\Hid (ER E w c.list N N R S IB RB SB MB fm s wx/\RI c.list s/\(m=false->∀j (hj:j<c.list.length),Ci s j c.list[j]=false))) (fun mv wx=>QO N IB wx+Mf mv)
   case atStart=>exact⟨true,_,rfl,HS0.out,RI.zero _,fun h=>by cases h⟩
   case round=>
    clear HS0;rename World=>wb;obtain⟨m,s0,rfl,HJ⟩:=hrel;cases m with
    |false=>
     have HQ:Hid (wb.rowIs IB 4 N (fun j=>.bool (ndK c.list j))/\E<=IB/\Below E w wb):=by
      obtain⟨h1,h2,h3⟩:=HJ.out;exact⟨h1.is.congr fun j hj=>by rw[HDN.out s0 h2 (h3 rfl) j],h1.ge.1,h1.bel⟩
     clear HJ;go_wp2;go_ret;exact⟨IB,rfl,HQ.out.1,HQ.out.2.1,HQ.out.2.2⟩
    |true=>
     have HMS:Hid (QO N IB wb=Bv N s0):=Mg HJ.out.1.is;have HJ0:Hid (ER E w c.list N N R S IB RB SB MB fm s0 wb/\RI c.list s0):=⟨HJ.out.1,HJ.out.2.1⟩
     clear HJ;go_wp2
     go_loopw [9,10] (fun mv iv wx=>∃ (m:Bool) (k:Nat) (s:Rf),k<=N/\mv=.bool m/\iv=.int .i64 (k:Int)/\Hid (ER E w c.list N N R S IB RB SB MB fm s wx/\RI c.list s/\(m=false->∀j (hj:j<c.list.length),j<k->Ci s j c.list[j]=false)/\(m=true->Bv N s<Bv N s0)/\Bv N s<=Bv N s0)) (fun _ iv _=>N-(intOf iv).toNat)
     case atStart=>exact⟨false,0,s0,Nat.zero_le _,rfl,rfl,HJ0.out.1,HJ0.out.2,fun _ j _ h=>absurd h oM,fun h=>Ho,Nat.le_refl _⟩
     case round=>
      clear HJ0;rename World=>wc;obtain⟨m,k,s,hk,rfl,rfl,HJ⟩:=hrel;by_cases hlt:k<N
      ·have hkl:k<c.list.length:=by have:=HNN.out;omega
       obtain⟨hM,hI,hW,hMt,hMl⟩:=HJ.out;obtain⟨lb,lo,rfl,hcl⟩:=(HLR.out wc hM.bel).at hkl;have hRDk:=HRD.out k hkl;have hSDk:=HSD.out k hkl;have hSLk:=HSL.out k hkl;have hFN:=HFN.out s hI k hkl;have hrdN:=F3 hkl;have KS:Hid (∀v,Calls prog 19 #[B9 c.list[k]] v fun e w'=>e=.returned (.bool (Ad c.list[k]))/\Below v.heap.size v w'):=fun v=>by rw[←G8];exact E7 _ v
       have KR:Hid (∀v,Calls prog 20 #[B9 c.list[k]] v fun e w'=>∃u,e=.returned u/\w'.ownsRow v.heap.size 3 1 u (A9 c.list[k] (A4 c.list[k].op)).length (B2 (A9 c.list[k] (A4 c.list[k].op)))/\Below v.heap.size v w'):=fun v=>CA _ v;have HMS2:Hid (Ci s k c.list[k]=true->Bv N (C5 c.list s k c.list[k])<Bv N s):=fun q=>by have h9:=Ei (l:=c.list) hkl q;rw[HNN.out]at h9;exact h9
       have HWI:Hid (Ci s k c.list[k]=false->m=false->∀j (hj:j<c.list.length),j<k+1->Ci s j c.list[j]=false):=fun q1 q2 j hj h9=>by
        by_cases e:j=k
        ·subst e;exact q1
        ·exact hW q2 j hj oM
       have HI:=A2 hI;have HML:Hid ((m=true->Bv N s<Bv N s0)/\Bv N s<=Bv N s0):=⟨hMt,hMl⟩
       obtain⟨⟨op,d,a,b,e,n,z⟩,hi⟩:∃i,c.list[k]=i:=⟨_,rfl⟩
       rw[hi]at hcl hRDk hSDk hSLk hFN hrdN KS KR HMS2 HWI;simp only at hSDk hSLk hRDk hrdN;unfold B9 at KS KR;simp only at KS KR;have y0:=hcl.at 0 (v:=.int .i64 op) rfl;rw[Nat.add_zero]at y0;have y1:=hcl.at 1 (v:=.int .i64 d) rfl;have y2:=hcl.at 2 (v:=.int .i64 a) rfl;have y3:=hcl.at 3 (v:=.int .i64 b) rfl;have y4:=hcl.at 4 (v:=.int .i64 e) rfl;have y5:=hcl.at 5 (v:=.int .i64 n) rfl;have y6:=hcl.at 6 (v:=.int .u32 z) rfl;have i1:(0:Int)<=(k:Int):=oM;have i2:(k:Int)<(N:Int):=oM;have wi:IntKind.i64.wrap ((k:Int)+1)=((k+1:Nat):Int):=by rw[IntKind.wrap_i64];omega
       obtain⟨V2,hV2⟩:∃V,wc.alloc (.cells #[.int .i64 op,.int .i64 d,.int .i64 a,.int .i64 b,.int .i64 e,.int .i64 n,.int .u32 z] 40)=V:=⟨_,rfl⟩
       have hV2b:Below wc.heap.size wc V2:=by rw[←hV2];exact A0 _ _
       have hX2:V2.rowIs wc.heap.size 40 7 (Dy op d a b e n z):=by rw[←hV2];exact AN wc _ _
       obtain⟨X,hX⟩:∃X,wc.heap.size=X:=⟨_,rfl⟩
       obtain⟨bx,hbx⟩:∃f,Dy op d a b e n z=f:=⟨_,rfl⟩
       rw[hX]at hX2;rw[hbx]at hX2;have HBX:Hid (∀v:World,v.rowIs X 40 7 bx->v.cell? ⟨X,0,none⟩=some (.int .i64 op)/\v.cell? ⟨X,1,none⟩=some (.int .i64 d)/\v.cell? ⟨X,2,none⟩=some (.int .i64 a)/\v.cell? ⟨X,3,none⟩=some (.int .i64 b)/\v.cell? ⟨X,4,none⟩=some (.int .i64 e)/\v.cell? ⟨X,5,none⟩=some (.int .i64 n)/\v.cell? ⟨X,6,none⟩=some (.int .u32 z)):=fun v h=>by
        exact SH
       obtain⟨x0,x1,x2,x3,x4,x5,x6⟩:=HBX.out V2 hX2;have HNB:Hid (Fs E w c.list N N R S IB RB SB MB fm X bx (.slice none 0 0) [] s V2):=⟨hM.below hV2b,hX2,World.ownsRow_nil _ _ _ 1⟩
       have HFD:=A2 hFN;have HRK:=A2 hRDk;have HRN:=A2 hrdN;clear hX2 hcl hi hM hI hW hMt hMl hV2b hFN hRDk hrdN hbx HJ;go_upto_region 17 with fail;try rw[hV2]
       try rw[hX]
       clear y0 y1 y2 y3 y4 y5 y6 hV2 hX;go_cut [12] (fun sv wx=>sv=.bool (Ad ⟨op,d,a,b,e,n,z⟩&&s.reg d.toNat)/\Hid (Below V2.heap.size V2 wx))
       case first=>
        cases hS:Ad (⟨op,d,a,b,e,n,z⟩:Aa)with
        |false=>
         rw[hS]at KS;have HS9:=A2 hS;clear hS hSDk hSLk;go_wp2_with(go_at_call 19;(with_reducible refine(KS.out _).mono ?_);rintro e9 w4 ⟨rfl,hb4⟩;have HB4:=A2 hb4;clear hb4);go_meet;exact⟨by rw[HS9.out];rfl,HB4.out⟩
        |true=>
         rw[hS]at KS;obtain⟨d0,d1⟩:=hSDk hS;obtain⟨D,rfl⟩:=Int.eq_ofNat_of_zero_le d0;have hDR:D<R:=oM;have HC4:Hid (∀v,Below V2.heap.size V2 v->v.cell? ⟨RB,D,none⟩=some (.bool (s.reg D))/\v.cell? ⟨X,1,none⟩=some (.int .i64 (D:Int))):=fun v hb=>by
          have h9:=HNB.out.below hb;exact⟨h9.m.reg.cell hDR,(HBX.out v h9.x).2.1⟩
         have j3:(0:Int)<=(D:Int):=oM;have j4:(D:Int)<(R:Int):=oM;have HS9:=A2 hS;clear hS hSDk hSLk d0 d1;go_wp2_with(go_at_call 19;(with_reducible refine(KS.out _).mono ?_);rintro e9 w4 ⟨rfl,hb4⟩;have HB4:=A2 hb4;obtain⟨q1',q2'⟩:=HC4.out w4 hb4;clear hb4);go_meet;exact⟨by rw[HS9.out];simp,HB4.out⟩
       case rest=>
        obtain⟨rfl,HV4⟩:=hcut;rename World=>V4;have HN4:=A2 (HNB.out.below HV4.out);obtain⟨x0,x1,x2,x3,x4,x5,x6⟩:=HBX.out V4 HN4.out.x;have hik:=HN4.out.m.is.cell (i:=k) hlt;have fik:=HN4.out.m.is.frozen k;obtain⟨ST,hST⟩:∃t,(Ad (⟨op,d,a,b,e,n,z⟩:Aa)&&s.reg d.toNat)=t:=⟨_,rfl⟩
        have hWT:Ci s k ⟨op,d,a,b,e,n,z⟩=(!(s.is k)&&(decide (op=31)||ST||(decide (op=33)&&s.slot n.toNat))):=by unfold Ci;rw[←hST]
        rw[hST];have HSLOT:Hid (op=33->∃M:Nat,n=(M:Int)/\M<S):=fun o=>hSLk (.inr o);have HSLO2:Hid (op=32->∃M:Nat,n=(M:Int)/\M<S):=fun o=>hSLk (.inl o);clear KS hSDk hSLk hST HNB HV4;go_upto_region 18 with fail;go_cut [92] (fun tv wx=>tv=.bool (!(Ci s k ⟨op,d,a,b,e,n,z⟩))/\wx=V4)
        case first=>
         have HWT:=A2 hWT;clear hWT;cases hsk:s.is k with
         |true=>
          rw[hsk]at hik;have HSK:=A2 hsk;clear hsk;go_wp2;go_meet;exact⟨by rw[HWT.out,HSK.out];simp,rfl⟩
         |false=>
          rw[hsk]at hik;have HSK:=A2 hsk;by_cases o:op=31
          ·subst o;clear hsk;go_wp2;go_meet;exact⟨by rw[HWT.out,HSK.out];simp,rfl⟩
          ·have o1:(op==31)=false:=by simpa using o
           have o2:(op != 31)=true:=by simpa using o
           have o3:decide (op=31)=false:=by simpa using o
           have O3:=A2 o3;cases ST with
           |true=>
            clear hsk o o3;go_wp2;go_meet;exact⟨by rw[HWT.out,HSK.out,O3.out];simp,rfl⟩
           |false=>
            by_cases o':op=33
            ·subst o';obtain⟨M,rfl,hM9⟩:=HSLOT.out rfl;have z1:=HN4.out.m.slot.cell hM9;have j3:(0:Int)<=(M:Int):=oM;have j4:(M:Int)<(S:Int):=oM;clear hsk o o3;cases hsm:s.slot M
             all_goals
              rw[hsm]at z1;go_wp2;go_meet;exact⟨by rw[HWT.out,HSK.out];simp[hsm],rfl⟩
            ·have o4:(op==33)=false:=by simpa using o'
             have o5:(op != 33)=true:=by simpa using o'
             have o6:decide (op=33)=false:=by simpa using o'
             have O6:=A2 o6;clear hsk o o' o3 o6;go_wp2;go_meet;exact⟨by rw[HWT.out,HSK.out,O3.out,O6.out];simp,rfl⟩
        case rest=>
         obtain⟨rfl,rfl⟩:=hcut;rename World=>V4;clear hWT HSLOT;cases hwt:Ci s k ⟨op,d,a,b,e,n,z⟩with
         |false=>
          have HQ:Hid (ER E w c.list N N R S IB RB SB MB fm s V4/\RI c.list s/\(m=false->∀j (hj:j<c.list.length),j<k+1->Ci s j c.list[j]=false)/\(m=true->Bv N s<Bv N s0)/\Bv N s<=Bv N s0):=⟨HN4.out.m,HI.out,HWI.out hwt,HML.out.1,HML.out.2⟩
          clear hwt HN4 HI HWI HML HMS2 HFD HRK HRN KR HBX;go_wp2;go_roundw
          case rel=>exact⟨m,k+1,s,oM,rfl,gN,HQ.out⟩
          case measure=>simp[intOf];omega
         |true=>
          have HQ:Hid (RI c.list (C5 c.list s k ⟨op,d,a,b,e,n,z⟩)/\Bv N (C5 c.list s k ⟨op,d,a,b,e,n,z⟩)<Bv N s0):=⟨HFD.out hwt,Nat.lt_of_lt_of_le (HMS2.out hwt) HML.out.2⟩
          have HN5:=A2 (HN4.out.setI k);obtain⟨W5,hW5⟩:∃W,V4.setCell ⟨IB,k,none⟩ (.bool true)=W:=⟨_,rfl⟩
          rw[hW5]at HN5;obtain⟨s1,hs1⟩:∃s1:Rf,(⟨CI s.is k,s.reg,s.slot⟩:Rf)=s1:=⟨_,rfl⟩
          rw[hs1]at HN5;obtain⟨ms,hms⟩:∃l,AC c.list k c.list.length=l:=⟨_,rfl⟩
          have HFR:Hid (C5 c.list s k ⟨op,d,a,b,e,n,z⟩=⟨(Bx c.list s1 ms).is,Em (Bx c.list s1 ms).reg (Dz c.list k),if op=32 then CI s.slot n.toNat else s.slot⟩/\(Bx c.list s1 ms).slot=s.slot):=by
           refine⟨by unfold C5;rw[hs1,hms],?_⟩;rw[(Dc c.list ms s1).2.2,←hs1]
          obtain⟨pm,qm,hpm⟩:=Ao (HN5.out.m.ms k hlt);rw[hms]at hpm;obtain⟨T,hT⟩:∃T,ms.length=T:=⟨_,rfl⟩
          have HT:=A2 hT;have hT2:T<=2*N:=by rw[←hT,←hms];exact HEL.out k
          rw[hT]at hpm;have HMS3:Hid (∀v sx,Fs E w c.list N N R S IB RB SB MB fm X bx (.slice none 0 0) [] sx v->v.cell? ⟨MB,k,none⟩=some (.slice pm T qm)/\∀t (ht:t<ms.length),∃g,pm=some ⟨g,0,none⟩/\v.cell? ⟨g,t,none⟩=some (.int .i64 (ms[t]:Int))/\ms[t]<N):=fun v sx h=>by
           refine⟨by rw[←hpm];exact h.m.mr.cell hlt,fun t ht=>?_⟩;have h9:=h.m.ms k hlt;rw[hms]at h9;obtain⟨g,cap,e9,g1,g2,g3,g4,g5⟩:=Bc h9 oM;rw[hpm]at e9;simp only[Value.slice.injEq]at e9;refine⟨g,e9.1,g5 t _ (by simp[AV,ht]),?_⟩;have h8:=HME.out k hkl ms[t] (by rw[hms];exact List.getElem_mem ht);rw[HNN.out]at h8;exact h8
          have HMZ:Hid (Fs E w c.list N N R S IB RB SB MB fm X bx (.slice none 0 0) [] (Bx c.list s1 (ms.take 0)) W5):=by rw[List.take_zero];exact HN5.out
          clear hwt HFD HMS2 HI HWI HML HN4 HN5 hs1 hms hpm hT;go_upto_region 21 with fail;try rw[hW5]
          clear hW5 hik fik x0 x1 x2 x3 x4 x5 x6;go_wp2
          go_loopw [13] (fun iv wx=>∃t:Nat,t<=T/\iv=.int .i64 (t:Int)/\Hid (Fs E w c.list N N R S IB RB SB MB fm X bx (.slice none 0 0) [] (Bx c.list s1 (ms.take t)) wx)) (fun iv _=>T-(intOf iv).toNat)
          case atStart=>exact⟨0,Nat.zero_le _,rfl,HMZ.out⟩
          case round=>
           clear HMZ;rename World=>wd;obtain⟨t,ht,rfl,HT9⟩:=hrel;obtain⟨e0,hcell⟩:=HMS3.out wd _ HT9.out;by_cases htl:t<T
           ·have htm:t<ms.length:=by have:=HT.out;omega
            obtain⟨g,rfl,e1,hmN⟩:=hcell t htm;have HMT:=A2 (Ja (l:=c.list) (s:=s1) htm);obtain⟨m,hm⟩:∃m,ms[t]=m:=⟨_,rfl⟩
            rw[hm]at e1 hmN HMT;have hml:m<c.list.length:=by have:=HNN.out;omega
            obtain⟨SM,hSM⟩:∃x,Bx c.list s1 (ms.take t)=x:=⟨_,rfl⟩
            rw[hSM]at HT9 HMT;have e2:=HT9.out.m.is.cell hmN;have f2:=HT9.out.m.is.frozen m;have HN6:=A2 (HT9.out.setI m);obtain⟨W6,hW6⟩:∃W,wd.setCell ⟨IB,m,none⟩ (.bool true)=W:=⟨_,rfl⟩
            rw[hW6]at HN6;obtain⟨lb',lo',hp',hcl⟩:=(HLR.out W6 HN6.out.m.bel).at hml;simp only[Option.some.injEq,Addr.mk.injEq,and_true]at hp';obtain⟨rfl,rfl⟩:=hp';have hrs:=HRD.out m hml;have hrn:=F3 hml;have KR2:Hid (∀v,Calls prog 20 #[B9 c.list[m]] v fun e w'=>∃u,e=.returned u/\w'.ownsRow v.heap.size 3 1 u (A9 c.list[m] (A4 c.list[m].op)).length (B2 (A9 c.list[m] (A4 c.list[m].op)))/\Below v.heap.size v w'):=fun v=>CA _ v;have hrl:(A9 c.list[m] (A4 c.list[m].op)).length<=3:=D6 _ _;obtain⟨rs,hrse⟩:∃r,A9 c.list[m] (A4 c.list[m].op)=r:=⟨_,rfl⟩
            rw[hrse]at hrs hrn KR2 hrl;have HRB:=A2 hrs;have HRN:=A2 hrn;obtain⟨⟨op',d',a',b',e',n',z'⟩,hi⟩:∃i,c.list[m]=i:=⟨_,rfl⟩
            rw[hi]at hcl KR2;unfold B9 at KR2;simp only at KR2;have y0:=hcl.at 0 (v:=.int .i64 op') rfl;rw[Nat.add_zero]at y0;have y1:=hcl.at 1 (v:=.int .i64 d') rfl;have y2:=hcl.at 2 (v:=.int .i64 a') rfl;have y3:=hcl.at 3 (v:=.int .i64 b') rfl;have y4:=hcl.at 4 (v:=.int .i64 e') rfl;have y5:=hcl.at 5 (v:=.int .i64 n') rfl;have y6:=hcl.at 6 (v:=.int .u32 z') rfl;obtain⟨RL,hRL⟩:∃r,rs.length=r:=⟨_,rfl⟩
            have HRL:=A2 hRL;rw[hRL]at hrl;have j1:(0:Int)<=(t:Int):=oM;have j2:(t:Int)<(T:Int):=oM;have j3:(0:Int)<=(m:Int):=oM;have j4:(m:Int)<(N:Int):=oM;have wt:IntKind.i64.wrap ((t:Int)+1)=((t+1:Nat):Int):=by rw[IntKind.wrap_i64];omega
            clear hcl hi hm hSM hrs hrn hrse hRL HT9 hcell;go_upto_region 26 with fail;try rw[hW6]
            clear hW6 e0 e1 e2 f2;go_upto_region 27 with(go_at_call 20;(with_reducible refine(KR2.out _).mono ?_);rintro e9 w2 ⟨rv,rfl,ho2,hb2⟩;have HN2:Hid (Fs E w c.list N N R S IB RB SB MB fm X bx rv rs ⟨CI SM.is m,Em SM.reg ((Dz c.list m).take 0),SM.slot⟩ w2):=(by rw[List.take_zero];have h9:=HN6.out.below hb2;exact⟨h9.m,h9.x,AM ho2 HN6.out.m.le⟩);obtain⟨pv,qv,hpv⟩:=Ao ho2;rw[HRL.out]at hpv;subst hpv;clear ho2 hb2)
            clear y0 y1 y2 y3 y4 y5 y6;go_wp2
            go_loopw [16] (fun iv wx=>∃u:Nat,u<=RL/\iv=.int .i64 (u:Int)/\Hid (Fs E w c.list N N R S IB RB SB MB fm X bx (.slice pv RL qv) rs ⟨CI SM.is m,Em SM.reg ((Dz c.list m).take u),SM.slot⟩ wx)) (fun iv _=>RL-(intOf iv).toNat)
            case atStart=>exact⟨0,Nat.zero_le _,rfl,by exact HN2.out⟩
            case round=>
             rename World=>wy;obtain⟨u,hu,rfl,HU⟩:=hrel;by_cases hul:u<RL
             ·have hur:u<rs.length:=by have:=HRL.out;omega
              obtain⟨r0,r1⟩:=HRB.out _ (List.getElem_mem hur);obtain⟨g,cap,e9,g1,g2,g3,g4,g5⟩:=Bc HU.out.rr oM;have z0:=g5 u (.int .i64 rs[u]) (by simp[B2,hur]);rw[HRL.out]at e9;obtain⟨rn,hrn⟩:=Int.eq_ofNat_of_zero_le r0;have hrd:(Dz c.list m)[u]? =some rn:=by
               have:=HRN.out;exact Rb
              obtain⟨hu1,hu2⟩:=List.getElem?_eq_some_iff.1 hrd;have hrR:rn<R:=oM;have z1:=HU.out.m.reg.cell hrR;have z2:=HU.out.m.reg.frozen rn;have HST:=A2 (HU.out.setR rn);have HTK:Hid (Em SM.reg ((Dz c.list m).take (u+1))=CI (Em SM.reg ((Dz c.list m).take u)) rn):=by
               show _=_;rw[FY hu1,hu2]
              exact S2
             ·have j9:¬ (u:Int)<(RL:Int):=oM;have hue:u=RL:=oM;have HU2:Hid (Fs E w c.list N N R S IB RB SB MB fm X bx (.slice pv RL qv) rs ⟨CI SM.is m,Em SM.reg (Dz c.list m),SM.slot⟩ wy):=by
               exact SO
              clear hul hue HU;go_wp2;go_roundw
              case rel=>
               refine⟨t+1,oM,gN,?_⟩;show Fs _ _ _ _ _ _ _ _ _ _ _ _ _ _ _ _ _ _;rw[HMT.out];exact HU2.out.drop
              case measure=>simp[intOf];omega
           ·have j9:¬ (t:Int)<(T:Int):=oM;have hte:t=ms.length:=by have:=HT.out;omega
            have HT8:Hid (Fs E w c.list N N R S IB RB SB MB fm X bx (.slice none 0 0) [] (Bx c.list s1 ms) wd):=by
             have h9:=HT9.out;rw[hte,List.take_length]at h9;exact h9
            obtain⟨SM,hSM⟩:∃x,Bx c.list s1 ms=x:=⟨_,rfl⟩
            rw[hSM]at HT8 HFR;obtain⟨x0,x1,x2,x3,x4,x5,x6⟩:=HBX.out wd HT8.out.x;have hrl:(A9 (⟨op,d,a,b,e,n,z⟩:Aa) (A4 op)).length<=3:=D6 _ _;obtain⟨rs,hrse⟩:∃r,A9 (⟨op,d,a,b,e,n,z⟩:Aa) (A4 op)=r:=⟨_,rfl⟩
            rw[hrse]at HRK HRN KR hrl;obtain⟨RL,hRL⟩:∃r,rs.length=r:=⟨_,rfl⟩
            have HRL:=A2 hRL;have HRB:=A2 HRK.out;rw[hRL]at hrl;clear htl hte HT9 hcell hSM hrse hRL HRK;go_upto_region 32 with(go_at_call 20;(with_reducible refine(KR.out _).mono ?_);rintro e9 w2 ⟨rv,rfl,ho2,hb2⟩;have HN2:Hid (Fs E w c.list N N R S IB RB SB MB fm X bx rv rs ⟨SM.is,Em SM.reg ((Dz c.list k).take 0),SM.slot⟩ w2):=(by rw[List.take_zero];have h9:=HT8.out.below hb2;exact⟨h9.m,h9.x,AM ho2 HT8.out.m.le⟩);obtain⟨pv,qv,hpv⟩:=Ao ho2;rw[HRL.out]at hpv;subst hpv;clear ho2 hb2)
            clear x0 x1 x2 x3 x4 x5 x6 e0;go_wp2
            go_loopw [18] (fun iv wx=>∃u:Nat,u<=RL/\iv=.int .i64 (u:Int)/\Hid (Fs E w c.list N N R S IB RB SB MB fm X bx (.slice pv RL qv) rs ⟨SM.is,Em SM.reg ((Dz c.list k).take u),SM.slot⟩ wx)) (fun iv _=>RL-(intOf iv).toNat)
            case atStart=>exact⟨0,Nat.zero_le _,rfl,by exact HN2.out⟩
            case round=>
             rename World=>wy;obtain⟨u,hu,rfl,HU⟩:=hrel;by_cases hul:u<RL
             ·have hur:u<rs.length:=by have:=HRL.out;omega
              obtain⟨r0,r1⟩:=HRB.out _ (List.getElem_mem hur);obtain⟨g,cap,e9,g1,g2,g3,g4,g5⟩:=Bc HU.out.rr oM;have z0:=g5 u (.int .i64 rs[u]) (by simp[B2,hur]);rw[HRL.out]at e9;obtain⟨rn,hrn⟩:=Int.eq_ofNat_of_zero_le r0;have hrd:(Dz c.list k)[u]? =some rn:=by
               have:=HRN.out;exact Rb
              obtain⟨hu1,hu2⟩:=List.getElem?_eq_some_iff.1 hrd;have hrR:rn<R:=oM;have z1:=HU.out.m.reg.cell hrR;have z2:=HU.out.m.reg.frozen rn;have HST:=A2 (HU.out.setR rn);have HTK:Hid (Em SM.reg ((Dz c.list k).take (u+1))=CI (Em SM.reg ((Dz c.list k).take u)) rn):=by
               show _=_;rw[FY hu1,hu2]
              exact S2
             ·have j9:¬ (u:Int)<(RL:Int):=oM;have hue:u=RL:=oM;have HU2:Hid (Fs E w c.list N N R S IB RB SB MB fm X bx (.slice pv RL qv) rs ⟨SM.is,Em SM.reg (Dz c.list k),SM.slot⟩ wy):=by
               exact SO
              clear hul hue HU;obtain⟨x0,x1,x2,x3,x4,x5,x6⟩:=HBX.out wy HU2.out.x;by_cases o:op=32
              ·subst o;obtain⟨M,rfl,hM9⟩:=HSLO2.out rfl;have z1:=HU2.out.m.slot.cell hM9;have z2:=HU2.out.m.slot.frozen M;have j3:(0:Int)<=(M:Int):=oM;have j4:(M:Int)<(S:Int):=oM;have HR9:Hid (ER E w c.list N N R S IB RB SB MB fm (C5 c.list s k ⟨32,d,a,b,e,(M:Int),z⟩) (wy.setCell ⟨SB,M,none⟩ (.bool true))):=by
                have h9:=HU2.out.m.setS M;show ER _ _ _ _ _ _ _ _ _ _ _ _ _ _;rw[HFR.out.1,if_pos rfl,←HFR.out.2];exact h9
               clear HU2 HFR;exact Sy
              ·have o1:(op==32)=false:=by simpa using o
               have HR9:Hid (ER E w c.list N N R S IB RB SB MB fm (C5 c.list s k ⟨op,d,a,b,e,n,z⟩) wy):=by
                have h9:=HU2.out.m;show ER _ _ _ _ _ _ _ _ _ _ _ _ _ _;rw[HFR.out.1,if_neg o,←HFR.out.2];exact h9
               clear HU2 HFR o;exact Sy
      ·have e9:¬ (k:Int)<(N:Int):=oM;have hke:k=N:=oM;have HQ:Hid (ER E w c.list N N R S IB RB SB MB fm s wc/\RI c.list s/\(m=false->∀j (hj:j<c.list.length),Ci s j c.list[j]=false)/\(m=true->Bv N s<Bv N s0)/\Bv N s<=Bv N s0):=by
        obtain⟨h1,h2,h3,h4,h5⟩:=HJ.out;exact⟨h1,h2,fun q j hj=>h3 q j hj (by have:=HNN.out;omega),h4,h5⟩
       clear hlt hke HJ;go_wp2;go_roundw
       case rel=>exact⟨m,s,rfl,HQ.out.1,HQ.out.2.1,HQ.out.2.2.1⟩
       case measure=>
        rw[HMS.out,Mg HQ.out.1.is];obtain⟨-,-,-,h4,h5⟩:=HQ.out;cases m with
        |true=>have:=h4 rfl;simp[Mf];omega
        |false=>simp[Mf];omega
def T0:Option Value->Bool
 |some (.bool true)=>true
 |_=>false
def Rv:Option Value->Nat
 |some (.slice _ n _)=>n
 |_=>0
def Qe(L B DB:Nat)(w:World):Nat:=((List.range L).filter fun p=> !(T0 (w.cell? ⟨DB,p,none⟩))).length+Rv (w.cell? ⟨B,6,none⟩)
theorem Mh{l:List Aa}{E R S:Nat}{s:DT}{q:Sr}{w:World}{B C GB TB AB NB DB:Nat}{vg vt:Nat->Value}{vd:Value}{tag:Nat->Nat}(h:Bj E R S l.length s w B C GB TB AB NB DB vg vt vd tag)(hq:CE l s q):Qe l.length B DB w=BI l q:=by
 unfold Qe BI;have e1:(List.range l.length).filter (fun p=> !(T0 (w.cell? ⟨DB,p,none⟩)))=(List.range l.length).filter (fun k=> !(q.nd k)):=List.filter_congr fun p hp=>by
  rw[h.d.cell (List.mem_range.1 hp),hq.nd];cases q.nd p<;>rfl
 obtain⟨po,cap,ev⟩:=Ao h.td;rw[e1,h.b6,ev];show _+s.todo.length=_;rw[hq.todo]
theorem KK(l:List Aa)(q:Sr):q.todo.length<=BI l q:=Nat.le_add_left _ _
theorem CE.pop{l:List Aa}{s:DT}{q:Sr}(h:CE l s q)(t:List Nat):CE l {s with todo:=t} {q with todo:=t}:=⟨h.nd,rfl,h.sl,h.tl,h.ar,h.en⟩
theorem J4{α:Type}{l:List α}(h:0<l.length):∃t p,l=t++[p]/\t=l.take (l.length-1)/\l[l.length-1]? =some p/\t.length=l.length-1:=by
 have hne:l≠[]:=fun e=>by rw[e]at h;cases h
 refine⟨l.dropLast,l.getLast hne,(List.dropLast_concat_getLast hne).symm,List.dropLast_eq_take ..,?_,sM⟩;rw[List.getLast_eq_getElem,List.getElem?_eq_getElem]
theorem PA(K:Nat->Bool)(l:List Aa){j:Nat}(h:j<l.length):AH K id l (j+1)=if K j=true then AH K id l j++[l[j]]else AH K id l j:=by
 split
 ·rename_i hk;exact Cx h hk
 ·rename_i hk;exact EE (by simpa using hk)
theorem Je(c:Cd)(hc:(Ah c).1=0)(w:World)(C:Nat)(p1 p2 p3:Option Addr)(q1 q2 q3:Nat)(hR:c.regs.length<=16384)(hS:c.slots.length<=4096)(hL:c.list.length<=32768)(hC1:w.cell? ⟨C,1,none⟩=some (.slice p1 c.regs.length q1))(hC2:w.cell? ⟨C,2,none⟩=some (.slice p2 c.slots.length q2))(hC3:w.cell? ⟨C,3,none⟩=some (.slice p3 c.list.length q3))(hl:AR 7 Bf w (.slice p3 c.list.length q3) c.list):
 Calls prog 11 #[.pointer (some ⟨C,0,none⟩)] w fun e w'=>∃p q,e=.returned (.slice p (AH (ndK c.list) id c.list c.list.length).length q)/\w'.ownsRow w.heap.size 40 7 (.slice p (AH (ndK c.list) id c.list c.list.length).length q) (AH (ndK c.list) id c.list c.list.length).length (Am Bf (AH (ndK c.list) id c.list c.list.length))/\((AH (ndK c.list) id c.list c.list.length).length=0->p=none/\q=0)/\Below w.heap.size w w':=by
 have HL:=A2 hl;have KN:=A2 (Mj c hc w C p1 p2 p3 q1 q2 q3 hR hS hL hC1 hC2 hC3 hl);have HGO:Hid (∀ (p:Nat) (hp:p<c.list.length),(∀r∈A9 c.list[p] (A4 c.list[p].op),0<=r/\r<(c.regs.length:Int))/\(c.list[p].op=32->0<=c.list[p].n/\c.list[p].n<(c.slots.length:Int))):=fun p hp=>by
  obtain⟨h1,h2,h3⟩:=B8.1 hc;obtain⟨t1,t2,t3,t4⟩:=AG (BH h2 hp);refine⟨fun r hr=>?_,fun o=>?_⟩
  ·exact S3
  ·obtain⟨n,e1,e2⟩:=CK hc hp (.inl o);rw[e1];omega
 have HST:=A2 (Hl hc);have HNX:=A2 (fun(q:Sr) (h:LP c.list q) (t:List Nat) (p:Nat) (ht:q.todo=t++[p])=>LP.next hc h ht);obtain⟨R,hRe⟩:∃N,c.regs.length=N:=⟨_,rfl⟩
 obtain⟨S,hSe⟩:∃N,c.slots.length=N:=⟨_,rfl⟩
 simp only[hRe]at KN HGO;simp only[hSe]at KN HGO;obtain⟨M,hMe⟩:∃M,c.list.length=M:=⟨_,rfl⟩
 have HM:=A2 hMe;simp only[hMe]at KN HL hC3 hL ⊢;clear hl hRe hSe hc hC1 hC2 hR hS hMe;go_enter func11,ntmps11;go_upto_region 2 with(go_at_call 26;(with_reducible refine(KN.out).mono ?_);rintro e9 w1 ⟨v1,rfl,B,GB,TB,AB,NB,DB,vg,vt,vd,tag,s,rfl,hk1,hs1,hb1⟩;have HK1:=A2 hk1;have HS1:=A2 hs1;have HB1:=A2 hb1;have d3:=kc hb1 hC3;clear hk1 hs1 hb1)
 obtain⟨E,hE⟩:∃E,w.heap.size=E:=⟨_,rfl⟩
 simp only[hE]at HK1 HB1 ⊢;have HE:=A2 hE;have HCE:Hid (C<E):=by rw[←hE];exact Ab hC3
 have HC3:Hid (∀v,Below E w v->v.cell? ⟨C,3,none⟩=some (.slice p3 M q3)/\AR 7 Bf v (.slice p3 M q3) c.list):=fun v hv=>by
  have hv':Below w.heap.size w v:=by rw[HE.out];exact hv
  exact⟨kc hv' hC3,HL.out.below hv'⟩
 have HK0:Hid (Below E w w1/\∃s vg vt vd tag,Bj E R S M s w1 B C GB TB AB NB DB vg vt vd tag/\CE c.list s (Dw c.list 0)):=⟨HB1.out,s,vg,vt,vd,tag,HK1.out,HS1.out⟩
 clear hE HK1 HS1 HB1 KN hC3 HL;go_wp2;clear d3
 go_loopw [18] (fun iv wr=>∃j:Nat,j<=M/\iv=.int .i64 (j:Int)/\Hid (Below E w wr/\∃s vg vt vd tag,Bj E R S M s wr B C GB TB AB NB DB vg vt vd tag/\CE c.list s (Dw c.list j))) (fun iv _=>M-(intOf iv).toNat)
 case atStart=>exact⟨0,Nat.zero_le _,rfl,HK0.out⟩
 case round=>
  clear HK0;obtain⟨j,hj,rfl,HJ⟩:=hrel;by_cases hlt:j<M
  ·have hjl:j<c.list.length:=by have:=HM.out;omega
   obtain⟨hbj,s,vg,vt,vd,tag,hK,hP⟩:=HJ.out;obtain⟨-,hrow⟩:=HC3.out wr hbj;obtain⟨lb,lo,rfl,hcl⟩:=hrow.at hjl;have HON:=A2 (fun o=>JV hjl o);have HOY:=A2 (fun o=>Ib hjl o);have htd:s.todo.length<=M:=by
    have h9:=(Ha (l:=c.list) j oM).2.2.2;have h8:=KK c.list (Dw c.list j);have h7:=HM.out;rw[hP.todo];omega
   obtain⟨⟨op,d,a,b,e,n,z⟩,hi⟩:∃i,c.list[j]=i:=⟨_,rfl⟩
   rw[hi]at hcl HON HOY;simp only at HON HOY;have y0:=hcl.at 0 (v:=.int .i64 op) rfl;rw[Nat.add_zero]at y0;have y1:=hcl.at 1 (v:=.int .i64 d) rfl;have y2:=hcl.at 2 (v:=.int .i64 a) rfl;have y3:=hcl.at 3 (v:=.int .i64 b) rfl;have y4:=hcl.at 4 (v:=.int .i64 e) rfl;have y5:=hcl.at 5 (v:=.int .i64 n) rfl;have y6:=hcl.at 6 (v:=.int .u32 z) rfl;have llb:lb<wr.heap.size:=Ab y0;have n9:¬lb=wr.heap.size:=oM;have i1:(0:Int)<=(j:Int):=oM;have i2:(j:Int)<(M:Int):=oM;have wi:IntKind.i64.wrap ((j:Int)+1)=((j+1:Nat):Int):=by rw[IntKind.wrap_i64];omega
   obtain⟨V2,hV2⟩:∃V,wr.alloc (.cells #[.int .i64 op,.int .i64 d,.int .i64 a,.int .i64 b,.int .i64 e,.int .i64 n,.int .u32 z] 40)=V:=⟨_,rfl⟩
   have HB2:Hid (Below wr.heap.size wr V2):=by rw[←hV2];exact A0 _ _
   have hX2:V2.rowIs wr.heap.size 40 7 (Dy op d a b e n z):=by rw[←hV2];exact AN wr _ _
   have x0:V2.cell? ⟨wr.heap.size,0,none⟩=some (.int .i64 op):=hX2.cell (i:=0) dE;have HBV:Hid (Below E w V2):=hbj.trans (HB2.out.mono hK.lt);have HKV:=A2 (hK.below HB2.out);have HP:=A2 hP;have HTD:=A2 htd;clear hX2 hcl hi llb hbj hK hP htd hrow HJ;by_cases o:op=31
   ·have o1:(op==31)=true:=by simpa using o
    have HOJ:=A2 (HOY.out o);obtain⟨W6,hW6⟩:∃W,V2.alloc (.cells #[.int .i64 (j:Int)] 3)=W:=⟨_,rfl⟩
    have HB6:Hid (Below V2.heap.size V2 W6):=by rw[←hW6];exact A0 _ _
    have HK6:Hid (Bj E R S M s W6 B C GB TB AB NB DB vg vt vd (fun x=>if x<V2.heap.size then tag x else 0)):=(HKV.out.retag (fun x hx=>if_pos hx)).below HB6.out;have KE0:=DI E R S M s W6 B C GB TB AB NB DB vg vt vd (fun x=>if x<V2.heap.size then tag x else 0) HK6.out V2.heap.size 1 0 (some ⟨V2.heap.size,0,none⟩) [j] (fun _=>rfl) (fun k hk=>by
     have hk2:k=0:=by simp only[List.length_cons,List.length_nil]at hk;omega
     rw[←hW6];subst hk2
     simp[go_sem]) (fun _=>⟨if_neg oM,dE,dE,dE⟩) (fun x hx=>by
     simp only[List.mem_singleton]at hx
     rw[hx];exact hlt) Rg oM
    rw[show [j].length=1 from rfl]at KE0;have KE:=A2 KE0;clear KE0;clear o HON HOY;go_upto_region 5 with fail;try rw[hV2]
    go_upto_region 6 with fail;go_wp2_with(go_at_call 27;(try rw[hW6]);(with_reducible refine(KE.out).mono ?_);rintro e9 w7 ⟨rfl,hb7,vd7,tag7,hk7,hs7⟩;have HB7:=A2 hb7;have HK7:=A2 hk7;clear hb7 hk7 hs7);go_roundw
    case rel=>
     refine⟨j+1,oM,gN,(HBV.out.trans (HB6.out.mono HKV.out.lt)).trans HB7.out,_,_,_,_,_,HK7.out,?_⟩;rw[HOJ.out];exact HP.out.need1 j
    case measure=>simp[intOf];omega
   ·have o1:(op==31)=false:=by simpa using o
    have HOJ:=A2 (HON.out o);clear o HON HOY;go_upto_region 5 with fail;try rw[hV2]
    go_wp2;go_roundw
    case rel=>
     refine⟨j+1,oM,gN,HBV.out,_,_,_,_,_,HKV.out,?_⟩;rw[HOJ.out];exact HP.out
    case measure=>simp[intOf];omega
  ·have e9:¬ (j:Int)<(M:Int):=oM;have hjn:j=c.list.length:=by have:=HM.out;omega
   have HK0:Hid (Below E w wr/\∃s vg vt vd tag q,Bj E R S M s wr B C GB TB AB NB DB vg vt vd tag/\CE c.list s q/\LP c.list q/\BI c.list q<=M):=by
    obtain⟨hbj,s,vg,vt,vd,tag,hK,hP⟩:=HJ.out;rw[hjn]at hP;refine⟨hbj,s,vg,vt,vd,tag,_,hK,hP,LP.begun c.list,?_⟩;have h9:=(Ha (l:=c.list) c.list.length (Nat.le_refl _)).2.2.2;have:=HM.out;omega
   clear hlt hjn HJ hj;go_wp2
   go_loopw [6] (fun _ wr=>Hid (Below E w wr/\∃s vg vt vd tag q,Bj E R S M s wr B C GB TB AB NB DB vg vt vd tag/\CE c.list s q/\LP c.list q/\BI c.list q<=M)) (fun _ wr=>Qe M B DB wr)
   case atStart=>exact HK0.out
   case round=>
    clear HK0;have HJ:=hrel;clear hrel;obtain⟨hbj,s,vg,vt,vd,tag,q,hK,hP,hI,hD⟩:=HJ.out;have b6:=hK.b6;have hML:=HM.out;have HMS:Hid (Qe M B DB wr=BI c.list q):=by show _=_;rw[←hML]at hK ⊢;exact Mh hK hP
    by_cases hlt:0<s.todo.length
    ·obtain⟨t,p,t1,t2,t3,t4⟩:=J4 hlt;obtain⟨g,cap,rfl,g1,g2,g3,g4,g5⟩:=Bc hK.td hlt;have hcp:=g5 (s.todo.length-1) (.int .i64 (p:Int)) (by simp[AV,t3]);obtain⟨hp,hI',hD'⟩:=HNX.out q hI t p (by rw[←hP.todo];exact t1);have hown:wr.ownsRow E 3 1 (.slice (some ⟨g,0,none⟩) t.length cap) t.length (AV t):=by
      have h9:=CZ hK.td (m:=s.todo.length-1) oM;rw[Nat.mul_one,F8,←t2,←t4]at h9;exact h9
     have hK5:=hK.setTodo hown (fun x hx=>hK.ttd x (by rw[←hx];rfl));obtain⟨W5,hW5⟩:∃W,wr.setCell ⟨B,6,none⟩ (.slice (some ⟨g,0,none⟩) t.length cap)=W:=⟨_,rfl⟩
     rw[hW5]at hK5;have hB5:Below E w W5:=by rw[←hW5];exact hbj.setCell hK.hB _
     obtain⟨c3,hrow⟩:=HC3.out W5 hB5;have htl:=KK c.list q;have f6:=hK.b.frozen 6;have KG:=A2 (M6 c.list E R S _ _ W5 B C GB TB AB NB DB vg vt _ tag (by rw[hML];exact hK5) (hP.pop t) p3 q3 (by rw[hML];exact c3) (by rw[hML];exact hrow) p hp (HGO.out p hp).1 (HGO.out p hp).2 HST.out (by show t.length<=40000;have:=hP.todo;rw[this]at t4;omega) oM);simp only[hML]at KG;have HI':=A2 hI';have HD':Hid (BI c.list (goQ c.list {q with todo:=t} p c.list[p])+1=BI c.list q/\BI c.list q<=M):=⟨hD',hD⟩
     have HB5:=A2 hB5;obtain⟨N,hN⟩:∃N,s.todo.length=N:=⟨_,rfl⟩
     obtain⟨N1,hN1⟩:∃N,t.length=N:=⟨_,rfl⟩
     rw[hN,hN1]at t4;simp only[hN]at b6 hlt hcp g3;rw[hN1]at hW5;rw[show N-1=N1 by omega]at hcp;have hNN:N=N1+1:=oM;subst hNN;have i1:(0:Int)<((N1+1:Nat):Int):=oM;have hmx:N1+1<=maxLen:=oM;unfold maxLen at hmx;have i3:IntKind.i64.wrap (N1:Int)=(N1:Int):=by rw[IntKind.wrap_i64];omega
     have i4:(0:Int)<=(N1:Int):=oM;have i5:(N1:Int)<((N1+1:Nat):Int):=oM;have i6:(N1:Int)<=(cap:Int):=oM;have i7:N1<=cap:=oM;clear hbj hK hP hI hD hI' hD' hK5 hB5 c3 hrow htl hown t1 t2 t3 t4 hN hN1 g1 g2 g4 g5 HJ hML;go_upto_region 12 with fail;try rw[hW5]
     clear hW5;go_wp2_with(go_at_call 28;(with_reducible refine(KG.out).mono ?_);rintro e9 w7 ⟨rfl,hb7,s7,vg7,vt7,vd7,tag7,hk7,hs7⟩;have HB7:=A2 hb7;have HK7:=A2 hk7;have HS7:=A2 hs7;clear hb7 hk7 hs7);go_roundw
     case rel=>
      refine⟨HB5.out.trans HB7.out,s7,vg7,vt7,vd7,tag7,_,HK7.out,HS7.out,HI'.out,?_⟩;have:=HD'.out;omega
     case measure=>
      have h9:Qe M B DB w7=BI c.list (goQ c.list {q with todo:=t} p c.list[p]):=by
       have hML:=HM.out;have h8:=HK7.out;rw[←hML]at h8 ⊢;exact Mh h8 HS7.out
      have h7:=HD'.out;have h6:=HMS.out;omega
    ·have e8:s.todo.length=0:=oM;have HFI:Hid (Below E w wr/\wr.rowIs DB 4 M (fun p=>.bool (ndK c.list p))/\wr.cell? ⟨B,5,none⟩=some (.slice (some ⟨DB,0,none⟩) M M)/\wr.rowIs B 77 7 (BV #[.pointer (some ⟨C,0,none⟩),.slice (some ⟨GB,0,none⟩) R R,.slice (some ⟨TB,0,none⟩) S S,.slice (some ⟨AB,0,none⟩) M M,.slice (some ⟨NB,0,none⟩) M M,.slice (some ⟨DB,0,none⟩) M M,vd])/\E<=wr.heap.size):=by
      refine⟨hbj,hK.d.congr fun k hk=>?_,hK.b5,hK.b,hK.lt⟩;rw[hP.nd,hI.done (by rw[←hP.todo];exact List.eq_nil_of_length_eq_zero e8)]
     obtain⟨po,cap,rfl⟩:=Ao hK.td;rw[e8]at b6;have c3:=(HC3.out wr hbj).1;clear hlt hK hP hI hD HJ hbj HMS e8 hML HGO HST HNX;go_wp2;obtain⟨hbf,hDf,c5,hBf,hle⟩:=HFI.out;have HL0:Hid (Below E w wr/\wr.rowIs DB 4 M (fun p=>.bool (ndK c.list p))/\(∃f,wr.rowIs B 77 7 f/\f 5=.slice (some ⟨DB,0,none⟩) M M)/\E<=wr.heap.size/\wr.ownsRow E 40 7 (.slice none 0 0) (AH (ndK c.list) id c.list 0).length (Am Bf (AH (ndK c.list) id c.list 0))/\((AH (ndK c.list) id c.list 0).length=0->(none:Option Addr)=none/\(0:Nat)=0)):=⟨hbf,hDf,⟨_,hBf,rfl⟩,hle,World.ownsRow_nil _ _ _ 7,fun _=>⟨rfl,rfl⟩⟩
     clear hbf hDf c5 hBf hle HFI c3 b6
     go_loopw [67,8] (fun iv lv wr=>∃ (j:Nat) (pl:Option Addr) (ql:Nat),j<=M/\iv=.int .i64 (j:Int)/\lv=.slice pl (AH (ndK c.list) id c.list j).length ql/\Hid (Below E w wr/\wr.rowIs DB 4 M (fun p=>.bool (ndK c.list p))/\(∃f,wr.rowIs B 77 7 f/\f 5=.slice (some ⟨DB,0,none⟩) M M)/\E<=wr.heap.size/\wr.ownsRow E 40 7 (.slice pl (AH (ndK c.list) id c.list j).length ql) (AH (ndK c.list) id c.list j).length (Am Bf (AH (ndK c.list) id c.list j))/\((AH (ndK c.list) id c.list j).length=0->pl=none/\ql=0))) (fun iv _ _=>M-(intOf iv).toNat)
     case atStart=>exact⟨0,none,0,Nat.zero_le _,rfl,rfl,HL0.out⟩
     case round=>
      clear HL0;obtain⟨j,pl,ql,hj,rfl,rfl,HJ⟩:=hrel;by_cases hlt:j<M
      ·have hjl:j<c.list.length:=by have:=HM.out;omega
       obtain⟨hbj,hD,⟨f,hF,hF5⟩,hEw,hO,hZ0⟩:=HJ.out;have HZ0:=A2 hZ0;clear hZ0;obtain⟨-,hrow⟩:=HC3.out wr hbj;obtain⟨lb,lo,rfl,hcl⟩:=hrow.at hjl;have HID:=A2 (PA (ndK c.list) c.list hjl);obtain⟨⟨op,d,a,b,e,n,z⟩,hi⟩:∃i,c.list[j]=i:=⟨_,rfl⟩
       rw[hi]at hcl HID;have y0:=hcl.at 0 (v:=.int .i64 op) rfl;rw[Nat.add_zero]at y0;have y1:=hcl.at 1 (v:=.int .i64 d) rfl;have y2:=hcl.at 2 (v:=.int .i64 a) rfl;have y3:=hcl.at 3 (v:=.int .i64 b) rfl;have y4:=hcl.at 4 (v:=.int .i64 e) rfl;have y5:=hcl.at 5 (v:=.int .i64 n) rfl;have y6:=hcl.at 6 (v:=.int .u32 z) rfl;have llb:lb<wr.heap.size:=Ab y0;have n9:¬lb=wr.heap.size:=oM;have i1:(0:Int)<=(j:Int):=oM;have i2:(j:Int)<(M:Int):=oM;have wi:IntKind.i64.wrap ((j:Int)+1)=((j+1:Nat):Int):=by rw[IntKind.wrap_i64];omega
       obtain⟨V2,hV2⟩:∃V,wr.alloc (.cells #[.int .i64 op,.int .i64 d,.int .i64 a,.int .i64 b,.int .i64 e,.int .i64 n,.int .u32 z] 40)=V:=⟨_,rfl⟩
       have HB2:Hid (Below wr.heap.size wr V2):=by rw[←hV2];exact A0 _ _
       have hX2:V2.rowIs wr.heap.size 40 7 (Dy op d a b e n z):=by rw[←hV2];exact AN wr _ _
       have x0:V2.cell? ⟨wr.heap.size,0,none⟩=some (.int .i64 op):=hX2.cell (i:=0) dE;have x1:V2.cell? ⟨wr.heap.size,1,none⟩=some (.int .i64 d):=hX2.cell (i:=1) dE;have x2:V2.cell? ⟨wr.heap.size,2,none⟩=some (.int .i64 a):=hX2.cell (i:=2) dE;have x3:V2.cell? ⟨wr.heap.size,3,none⟩=some (.int .i64 b):=hX2.cell (i:=3) dE;have x4:V2.cell? ⟨wr.heap.size,4,none⟩=some (.int .i64 e):=hX2.cell (i:=4) dE;have x5:V2.cell? ⟨wr.heap.size,5,none⟩=some (.int .i64 n):=hX2.cell (i:=5) dE;have x6:V2.cell? ⟨wr.heap.size,6,none⟩=some (.int .u32 z):=hX2.cell (i:=6) dE;have HBV:Hid (Below E w V2):=hbj.trans (HB2.out.mono hEw);have HDV:=A2 (hD.of_block (HB2.out.block _ hD.lt));have HFV:=A2 (hF.of_block (HB2.out.block _ hF.lt));have HOV:=A2 (Ac hO HB2.out);have HEV:Hid (E<=V2.heap.size):=Nat.le_trans hEw HB2.out.size;have d5:V2.cell? ⟨B,5,none⟩=some (.slice (some ⟨DB,0,none⟩) M M):=by rw[←hF5];exact HFV.out.cell (i:=5) dE
       have dd:=HDV.out.cell hlt;have hln:(AH (ndK c.list) id c.list j).length<=32768:=by have:=DO (ndK c.list) id c.list j;omega
       have HF5:=A2 hF5;obtain⟨P0,hP0⟩:∃P,AH (ndK c.list) id c.list j=P:=⟨_,rfl⟩
       rw[hP0]at HOV hln HID HZ0;rw[hP0];clear hX2 hcl hi llb hbj hD hF hF5 hEw hO hrow HJ hP0;cases hn:ndK c.list j with
       |true=>
        rw[hn]at dd HID;simp only[if_true]at HID;obtain⟨g,cq,w6,hr,hb6,ho6,hoth,hat⟩:=ED (t:=25) (e:=40) underlying25 EW rF dE HOV.out HEV.out #[.int .i64 op,.int .i64 d,.int .i64 a,.int .i64 b,.int .i64 e,.int .i64 n,.int .u32 z] rfl Jz mL oM 25;have HR:=A2 hr;have HB6:=A2 hb6;have HO6:Hid (w6.ownsRow E 40 7 (.slice (some ⟨g,0,none⟩) (P0.length+1) cq) (P0.length+1) (Am Bf (P0++[⟨op,d,a,b,e,n,z⟩]))):=by
         have e9:Am Bf (P0++[⟨op,d,a,b,e,n,z⟩])=Am Bf P0++[.int .i64 op,.int .i64 d,.int .i64 a,.int .i64 b,.int .i64 e,.int .i64 n,.int .u32 z]:=by simp[Am,Bf,RC]
         show World.ownsRow _ _ _ _ _ _ _;rw[e9];exact ho6
        have HD6:=A2 (HDV.out.of_block (hoth _ HDV.out.lt (Eo HOV.out HDV.out dE)));have HF6:=A2 (HFV.out.of_block (hoth _ HFV.out.lt (Eo HOV.out HFV.out dE)));obtain⟨PL,hPL⟩:∃k,P0.length+1=k:=⟨_,rfl⟩
        have HPL:Hid (P0.length+1=PL):=hPL;rw[hPL]at HR HO6;clear hr hb6 ho6 hoth hat hn hPL;go_upto_region 17 with fail;try rw[hV2]
        go_wp2_with(at_builtin;refine Ay rF _ _ _ rF _ _ _ rF rF HR.out ?_);go_roundw
        case rel=>
         have hPL:=HPL.out;refine⟨j+1,some ⟨g,0,none⟩,cq,oM,gN,?_,HBV.out.trans HB6.out,HD6.out,⟨f,HF6.out,HF5.out⟩,Nat.le_trans HEV.out HB6.out.size,?_,fun h9=>?_⟩
         ·rw[HID.out,List.length_append];exact congrArg (fun k=>Value.slice _ k _) hPL.symm
         ·rw[HID.out,List.length_append,show P0.length+[(⟨op,d,a,b,e,n,z⟩:Aa)].length=PL from hPL];exact HO6.out
         ·rw[HID.out,List.length_append]at h9;simp at h9
        case measure=>simp[intOf];omega
       |false=>
        rw[hn]at dd HID;simp only[Bool.false_eq_true,if_false]at HID;clear hn;go_upto_region 17 with fail;try rw[hV2]
        go_wp2;go_roundw
        case rel=>
         refine⟨j+1,pl,ql,oM,gN,by rw[HID.out],HBV.out,HDV.out,⟨f,HFV.out,HF5.out⟩,HEV.out,?_,?_⟩
         ·rw[HID.out];exact HOV.out
         ·rw[HID.out];exact HZ0.out
        case measure=>simp[intOf];omega
      ·have e9:¬ (j:Int)<(M:Int):=oM;have hjn:j=M:=oM;subst hjn;have HE2:Hid (wr.ownsRow E 40 7 (.slice pl (AH (ndK c.list) id c.list j).length ql) (AH (ndK c.list) id c.list j).length (Am Bf (AH (ndK c.list) id c.list j))/\((AH (ndK c.list) id c.list j).length=0->pl=none/\ql=0)/\Below E w wr):=⟨HJ.out.2.2.2.2.1,HJ.out.2.2.2.2.2,HJ.out.1⟩
       clear hlt HJ;go_wp2;refine bodyPost_ret (by simp[results,results11,go_sem, *];try rfl) rfl ?_;rw[HE.out];exact⟨_,_,rfl,HE2.out.1,fun h9=>HE2.out.2.1 (by rw[h9];rfl),HE2.out.2.2⟩
def Ok:Option Value->Nat
 |some (.int _ x)=>x.toNat
 |_=>0
def Br(l:List Aa)(o:Nat):Nat:=Ok ((Am Bf l)[o]?)
theorem BS(l:List Aa){j k:Nat}(hj:j<l.length)(hk:k<7):(Am Bf l)[7*j+k]? =(Bf l[j])[k]? :=by
 have:=DW Bz l j k hj hk;rw[Nat.mul_comm]at this;exact this
theorem DK{l:List Aa}{o:Nat}:∀k,k<=l.length->(o∈Bb l k↔∃j,∃hj:j<l.length,j<k/\((o=7*j+1/\Ad l[j]=true)\/(o=7*j+2/\1<=(A9 l[j] (A4 l[j].op)).length)\/(o=7*j+3/\2<=(A9 l[j] (A4 l[j].op)).length)\/(o=7*j+4/\3<=(A9 l[j] (A4 l[j].op)).length)))
 |0,_=>⟨fun h=>Ho,fun⟨j,hj,h,_⟩=>absurd h oM⟩
 |k+1,hk=>by
  have hkl:k<l.length:=oM;rw[F0 hkl,List.mem_append,List.mem_append,DK k oM];have hn:=F5 l[k];have new:(o∈(if Ad l[k]=true then [7*k+1]else [])\/o∈[7*k+2,7*k+3,7*k+4].take (A9 l[k] (A4 l[k].op)).length)↔((o=7*k+1/\Ad l[k]=true)\/(o=7*k+2/\1<=(A9 l[k] (A4 l[k].op)).length)\/(o=7*k+3/\2<=(A9 l[k] (A4 l[k].op)).length)\/(o=7*k+4/\3<=(A9 l[k] (A4 l[k].op)).length)):=by
   generalize (A9 l[k] (A4 l[k].op)).length=n at hn;generalize Ad l[k]=s;have hn:n=0\/n=1\/n=2\/n=3:=oM;rcases hn with rfl|rfl|rfl|rfl<;>cases s<;>simp
  constructor
  ·rintro((⟨j,hj,h1,h2⟩|h)|h)
   ·exact⟨j,hj,oM,h2⟩
   ·exact⟨k,hkl,oM,new.1 (.inl h)⟩
   ·exact⟨k,hkl,oM,new.1 (.inr h)⟩
  ·rintro⟨j,hj,h1,h2⟩;by_cases e:j=k
   ·subst e;rcases new.2 h2 with h|h
    ·exact .inl (.inr h)
    ·exact .inr h
   ·exact .inl (.inl ⟨j,hj,oM,h2⟩)
theorem DL{l:List Aa}{o:Nat}:∀k,k<=l.length->(o∈Bh l k↔∃j,∃hj:j<l.length,j<k/\o=7*j+5/\(l[j].op=32\/l[j].op=33))
 |0,_=>⟨fun h=>Ho,fun⟨j,hj,h,_⟩=>absurd h oM⟩
 |k+1,hk=>by
  have hkl:k<l.length:=oM;rw[F1 hkl,List.mem_append,DL k oM];constructor
  ·rintro(⟨j,hj,h1,h2⟩|h)
   ·exact⟨j,hj,oM,h2⟩
   ·split at h
    ·rename_i h9;exact⟨k,hkl,oM,by simpa using h,h9⟩
    ·cases h
  ·rintro⟨j,hj,h1,h2,h3⟩;by_cases e:j=k
   ·subst e;right;rw[if_pos h3,h2];simp
   ·exact .inl ⟨j,hj,oM,h2,h3⟩
theorem FU(l:List Aa):∀k,k<=l.length->(Bb l k).Nodup
 |0,_=>List.nodup_nil
 |k+1,hk=>by
  have hkl:k<l.length:=oM;have ih:=FU l k oM;have lt:∀o∈Bb l k,o<7*k:=fun o ho=>by
   obtain⟨j,hj,h1,h2⟩:=(DK k oM).1 ho;omega
  rw[F0 hkl,List.append_assoc,List.nodup_append];have hn:=F5 l[k];generalize (A9 l[k] (A4 l[k].op)).length=n at hn;generalize Ad l[k]=s;have hn:n=0\/n=1\/n=2\/n=3:=oM;refine⟨ih,?_,fun a ha b hb e=>?_⟩
  ·rcases hn with rfl|rfl|rfl|rfl<;>cases s<;>simp
  ·have h1:=lt a ha;have h2:7*k<=b:=by rcases hn with rfl|rfl|rfl|rfl<;>cases s<;>simp at hb<;>omega
   omega
theorem FX(l:List Aa):∀k,k<=l.length->(Bh l k).Nodup
 |0,_=>List.nodup_nil
 |k+1,hk=>by
  have hkl:k<l.length:=oM;have ih:=FX l k oM;rw[F1 hkl,List.nodup_append];refine⟨ih,by split<;>simp,fun a ha b hb e=>?_⟩;obtain⟨j,hj,h1,h2,-⟩:=(DL k oM).1 ha;split at hb
  ·simp only[List.mem_singleton]at hb;omega
  ·cases hb
theorem F4(i:Aa)(hk:An i.op=true):((A4 i.op).a≠0↔1<=(A9 i (A4 i.op)).length)/\((A4 i.op).b≠0↔2<=(A9 i (A4 i.op)).length)/\((A4 i.op).c≠0↔3<=(A9 i (A4 i.op)).length):=by
 have hrow:((A4 i.op).b≠0->(A4 i.op).a≠0)/\((A4 i.op).c≠0->(A4 i.op).b≠0):=by
  obtain⟨n,e,h1,h2⟩:=CU hk;rw[e];have Cc:∀n:Nat,n<38->((A4 (n:Int)).b≠0->(A4 (n:Int)).a≠0)/\((A4 (n:Int)).c≠0->(A4 (n:Int)).b≠0):=dE;exact Cc n h2
 unfold A9;by_cases ha:(A4 i.op).a=0<;>by_cases hb:(A4 i.op).b=0<;>by_cases hc:(A4 i.op).c=0<;>simp[ha,hb,hc]at hrow ⊢
section
variable {c : Cd}
noncomputable def ndL (c:Cd):List Aa:=AH (ndK c.list) id c.list c.list.length
theorem GA(K:Nat->Bool)(f:Aa->Aa)(l:List Aa):∀j,AH K f l j=(AH K id l j).map f
 |0=>rfl
 |j+1=>by
  rw[AH,AH,GA K f l j,List.map_append];congr 1;cases l[j]? with
  |none=>rfl
  |some i=>simp only;split<;>rfl
theorem H8{i:Aa}(h:i∈ndL c):∃k,∃hk:k<c.list.length,Nd c.list k/\i=c.list[k]:=by
 obtain⟨k,hk,-,h1,h2⟩:=JQ c.list.length (Nat.le_refl _) h;exact⟨k,hk,B0.1 h1,h2⟩
theorem JP{k:Nat}(hk:k<c.list.length)(n:Nd c.list k):c.list[k]∈ndL c:=OL (f:=id) hk (B0.2 n) c.list.length hk (Nat.le_refl _)
theorem H7(hc:(Ah c).1=0){i:Aa}(h:i∈ndL c):An i.op=true/\AW c i (A4 i.op)=true:=by
 obtain⟨k,hk,-,rfl⟩:=H8 h;obtain⟨h1,h2,h3⟩:=B8.1 hc;obtain⟨t1,t2,t3,t4⟩:=AG (BH h2 hk);exact⟨t1,t2⟩
theorem Ph(hc:(Ah c).1=0){o:Nat}(ho:o∈Bb (ndL c) (ndL c).length):o<(ndL c).length*7/\(Am Bf (ndL c))[o]? =some (.int .i64 (Br (ndL c) o:Int))/\Br (ndL c) o<c.regs.length/\usR c.list (Br (ndL c) o)=true:=by
 obtain⟨j,hj,-,h⟩:=(DK _ (Nat.le_refl _)).1 ho;have hm:=List.getElem_mem hj;obtain⟨k1,k2⟩:=H7 hc hm;obtain⟨ra,rb,rc⟩:=F4 _ k1;obtain⟨k,hk,hn,e⟩:=H8 hm;obtain⟨c1,c2,c3⟩:=B8.1 hc;have rd:∀r∈A9 (ndL c)[j] (A4 (ndL c)[j].op),usR c.list r.toNat=true:=fun r hr=>Cq c2 hk hn (by rw[←e];exact hr);have Cc:∀ (kk:Nat) (x:Int),kk<7->o=7*j+kk->(Bf (ndL c)[j])[kk]? =some (.int .i64 x)->0<=x->x<(c.regs.length:Int)->usR c.list x.toNat=true->o<(ndL c).length*7/\(Am Bf (ndL c))[o]? =some (.int .i64 (Br (ndL c) o:Int))/\Br (ndL c) o<c.regs.length/\usR c.list (Br (ndL c) o)=true:=fun kk x hkk eo hx x0 x1 hu=>by
  have e1:(Am Bf (ndL c))[o]? =some (.int .i64 x):=by rw[eo,BS _ hj hkk];exact hx
  have e2:Br (ndL c) o=x.toNat:=by unfold Br;rw[e1];rfl
  refine⟨oM,?_,by rw[e2];omega,by rw[e2];exact hu⟩;rw[e1,e2];congr 2;omega
 have ia:(A4 (ndL c)[j].op).a≠0->(ndL c)[j].a∈A9 (ndL c)[j] (A4 (ndL c)[j].op):=fun h9=>by unfold A9;simp[h9]
 have ib:(A4 (ndL c)[j].op).b≠0->(ndL c)[j].b∈A9 (ndL c)[j] (A4 (ndL c)[j].op):=fun h9=>by unfold A9;simp[h9]
 have ic:(A4 (ndL c)[j].op).c≠0->(ndL c)[j].c∈A9 (ndL c)[j] (A4 (ndL c)[j].op):=fun h9=>by unfold A9;simp[h9]
 rcases h with⟨e1,s⟩|⟨e1,s⟩|⟨e1,s⟩|⟨e1,s⟩
 ·have hd:(A4 (ndL c)[j].op).d≠0:=by unfold Ad at s;simpa using s
  obtain⟨x0,x1⟩:=Al (CF k2) hd;exact Cc 1 _ dE e1 rfl x0 x1 (Bq.2 ⟨k,hk,hn,by rw[←e];exact s,by rw[←e]⟩)
 ·have h9:=ra.2 s;obtain⟨x0,x1⟩:=Al (Da k2) h9;exact Cc 2 _ dE e1 rfl x0 x1 (rd _ (ia h9))
 ·have h9:=rb.2 s;obtain⟨x0,x1⟩:=Al (DU k2) h9;exact Cc 3 _ dE e1 rfl x0 x1 (rd _ (ib h9))
 ·have h9:=rc.2 s;obtain⟨x0,x1⟩:=Al (DV k2) h9;exact Cc 4 _ dE e1 rfl x0 x1 (rd _ (ic h9))
theorem Qh(hc:(Ah c).1=0)(r:Nat):Fp (Bb (ndL c) (ndL c).length) (Br (ndL c)) r=usR c.list r:=by
 rw[Bool.eq_iff_iff];constructor
 ·intro h;obtain⟨o,ho,e⟩:=List.any_eq_true.1 h;have e:Br (ndL c) o=r:=by simpa using e
  rw[←e];exact(Ph hc ho).2.2.2
 ·intro h;obtain⟨k,hk,n,s,e⟩:=Bq.1 h;obtain⟨j,hj,ej⟩:=List.mem_iff_getElem.1 (JP hk n);refine List.any_eq_true.2 ⟨7*j+1,(DK _ (Nat.le_refl _)).2 ⟨j,hj,hj,.inl ⟨rfl,by rw[ej];exact s⟩⟩,?_⟩;have:Br (ndL c) (7*j+1)=r:=by
   unfold Br;rw[BS _ hj dE,ej,←e];rfl
  simpa using this
end
def F6(rho:Nat->Nat)(i:Aa):Aa:={i with d:=if Ad i=true then((rho i.d.toNat:Nat):Int)else i.d,a:=if(A4 i.op).a=0 then i.a else((rho i.a.toNat:Nat):Int),b:=if(A4 i.op).b=0 then i.b else((rho i.b.toNat:Nat):Int),c:=if(A4 i.op).c=0 then i.c else((rho i.c.toNat:Nat):Int)}
def ON(sig:Nat->Nat)(i:Aa):Aa:={i with n:=if i.op=32\/i.op=33 then((sig i.n.toNat:Nat):Int)else i.n}
theorem MK(rho sig:Nat->Nat){i:Aa}(hk:An i.op=true):ON sig (F6 rho i)=Cz rho sig i:=by
 have hrow:(A4 i.op).n=10↔(i.op=32\/i.op=33):=by
  obtain⟨n,e,h1,h2⟩:=CU hk;rw[e];have Cc:∀n:Nat,n<38->((A4 (n:Int)).n=10↔((n:Int)=32\/(n:Int)=33)):=dE;exact Cc n h2
 unfold ON F6 Cz Ad;simp only;by_cases hd:(A4 i.op).d=0<;>by_cases hn:i.op=32\/i.op=33<;>simp[hd,hn,hrow]
section
variable {c : Cd}
theorem Qb(hc:(Ah c).1=0)(f:Nat->Value)(hf:∀o,o<(ndL c).length*7->(Am Bf (ndL c))[o]? =some (f o))(o:Nat)(ho:o<((ndL c).map (F6 (Ak (usR c.list)))).length*7):(Am Bf ((ndL c).map (F6 (Ak (usR c.list)))))[o]? =some (fJ (Bb (ndL c) (ndL c).length) (Br (ndL c)) f (Bb (ndL c) (ndL c).length).length o):=by
 rw[List.length_map]at ho;obtain⟨j,k,ek,hk⟩:∃j k,o=7*j+k/\k<7:=⟨o/7,o%7,oM,oM⟩
 have hj:j<(ndL c).length:=oM;obtain⟨k1,k2⟩:=H7 hc (List.getElem_mem hj);obtain⟨ra,rb,rc⟩:=F4 _ k1;have hfo:=hf o ho;rw[ek,BS _ hj hk]at hfo;have hv:Br (ndL c) (7*j+k)=Ok ((Bf (ndL c)[j])[k]?):=by unfold Br;rw[BS _ hj hk]
 have mem:o∈Bb (ndL c) (ndL c).length↔((k=1/\Ad (ndL c)[j]=true)\/(k=2/\(A4 (ndL c)[j].op).a≠0)\/(k=3/\(A4 (ndL c)[j].op).b≠0)\/(k=4/\(A4 (ndL c)[j].op).c≠0)):=by
  rw[DK _ (Nat.le_refl _),ra,rb,rc];constructor
  ·rintro⟨j',hj',-,h⟩;have:j'=j:=oM;subst this;exact Sq
  ·intro h;refine⟨j,hj,hj,?_⟩;exact Sq
 have enm:Fp (Bb (ndL c) (ndL c).length) (Br (ndL c))=usR c.list:=funext (Qh hc);have gj:(List.map (F6 (Ak (usR c.list))) (ndL c))[j]' Rp=F6 (Ak (usR c.list)) (ndL c)[j]:=List.getElem_map ..;rw[ek,BS _ Rp hk,gj];unfold fJ;rw[List.take_length,←ek,enm];simp only[mem];rw[ek,hv];generalize (ndL c)[j]=i at *;obtain⟨op,d,a,b,e,n,z⟩:=i;simp only at hfo ⊢;rcases(show k=0\/k=1\/k=2\/k=3\/k=4\/k=5\/k=6 by omega)with rfl|rfl|rfl|rfl|rfl|rfl|rfl
 ·rw[if_neg oM];rw[←hfo];rfl
 ·by_cases s:Ad (⟨op,d,a,b,e,n,z⟩:Aa)=true
  ·rw[if_pos (.inl ⟨rfl,s⟩)];show some (Value.int .i64 (if Ad _=true then _ else d))=_;rw[if_pos s];rfl
  ·rw[if_neg (by simp[s]),←hfo];show some (Value.int .i64 (if Ad _=true then _ else d))=_;rw[if_neg s];rfl
 ·by_cases s:(A4 op).a=0
  ·rw[if_neg (by simp[s]),←hfo];show some (Value.int .i64 (if(A4 op).a=0 then a else _))=_;rw[if_pos s];rfl
  ·rw[if_pos (.inr (.inl ⟨rfl,s⟩))];show some (Value.int .i64 (if(A4 op).a=0 then a else _))=_;rw[if_neg s];rfl
 ·by_cases s:(A4 op).b=0
  ·rw[if_neg (by simp[s]),←hfo];show some (Value.int .i64 (if(A4 op).b=0 then b else _))=_;rw[if_pos s];rfl
  ·rw[if_pos (.inr (.inr (.inl ⟨rfl,s⟩)))];show some (Value.int .i64 (if(A4 op).b=0 then b else _))=_;rw[if_neg s];rfl
 ·by_cases s:(A4 op).c=0
  ·rw[if_neg (by simp[s]),←hfo];show some (Value.int .i64 (if(A4 op).c=0 then e else _))=_;rw[if_pos s];rfl
  ·rw[if_pos (.inr (.inr (.inr ⟨rfl,s⟩)))];show some (Value.int .i64 (if(A4 op).c=0 then e else _))=_;rw[if_neg s];rfl
 ·rw[if_neg oM];rw[←hfo];rfl
 ·rw[if_neg oM];rw[←hfo];rfl
theorem Ia(g:Aa->Aa)(hg:∀i,(g i).op=i.op)(l:List Aa):∀k,Bh (l.map g) k=Bh l k
 |0=>rfl
 |k+1=>by
  rw[Bh,Bh,Ia g hg l k,List.getElem?_map];cases l[k]? with
  |none=>rfl
  |some i=>simp only[Option.map_some,hg]
theorem Pj(hc:(Ah c).1=0)(rho:Nat->Nat){o:Nat}(ho:o∈Bh (ndL c) (ndL c).length):o<(ndL c).length*7/\(Am Bf ((ndL c).map (F6 rho)))[o]? =some (.int .i64 (Br (ndL c) o:Int))/\Br (ndL c) o<c.slots.length/\usS c.list (Br (ndL c) o)=true:=by
 obtain⟨j,hj,-,e1,op⟩:=(DL _ (Nat.le_refl _)).1 ho;have hm:=List.getElem_mem hj;obtain⟨k,hk,hn,e⟩:=H8 hm;obtain⟨m,m1,m2⟩:=CK hc hk (by rw[←e];exact op);have e2:Br (ndL c) o=m:=by
  unfold Br;rw[e1,BS _ hj dE];show Ok (some (Value.int .i64 (ndL c)[j].n))=m;rw[e,m1];rfl
 refine⟨oM,?_,by rw[e2];exact m2,?_⟩
 ·rw[e2,e1,BS _ Rp dE,List.getElem_map];show some (Value.int .i64 (ndL c)[j].n)=_;rw[e,m1]
 ·rw[e2];exact Dp.2 ⟨k,hk,hn,by rw[←e];exact op,by rw[m1];rfl⟩
theorem Qi(hc:(Ah c).1=0)(r:Nat):Fp (Bh (ndL c) (ndL c).length) (Br (ndL c)) r=usS c.list r:=by
 rw[Bool.eq_iff_iff];constructor
 ·intro h;obtain⟨o,ho,e⟩:=List.any_eq_true.1 h;have e:Br (ndL c) o=r:=by simpa using e
  rw[←e];exact(Pj hc id ho).2.2.2
 ·intro h;obtain⟨k,hk,n,s,e⟩:=Dp.1 h;obtain⟨j,hj,ej⟩:=List.mem_iff_getElem.1 (JP hk n);refine List.any_eq_true.2 ⟨7*j+5,(DL _ (Nat.le_refl _)).2 ⟨j,hj,hj,rfl,by rw[ej];exact s⟩,?_⟩;have:Br (ndL c) (7*j+5)=r:=by
   unfold Br;rw[BS _ hj dE,ej,←e];rfl
  simpa using this
theorem Qc(hc:(Ah c).1=0)(rho:Nat->Nat)(f:Nat->Value)(hf:∀o,o<(ndL c).length*7->(Am Bf ((ndL c).map (F6 rho)))[o]? =some (f o))(o:Nat)(ho:o<(ndL c).length*7):(Am Bf (((ndL c).map (F6 rho)).map (ON (Ak (usS c.list)))))[o]? =some (fJ (Bh (ndL c) (ndL c).length) (Br (ndL c)) f (Bh (ndL c) (ndL c).length).length o):=by
 obtain⟨j,k,ek,hk⟩:∃j k,o=7*j+k/\k<7:=⟨o/7,o%7,oM,oM⟩
 have hj:j<(ndL c).length:=oM;have hj1:j<((ndL c).map (F6 rho)).length:=by rw[List.length_map];exact hj
 have hfo:=hf o ho;rw[ek,BS _ hj1 hk,List.getElem_map]at hfo;have hv:Br (ndL c) (7*j+k)=Ok ((Bf (ndL c)[j])[k]?):=by unfold Br;rw[BS _ hj hk]
 have mem:o∈Bh (ndL c) (ndL c).length↔(k=5/\((ndL c)[j].op=32\/(ndL c)[j].op=33)):=by
  rw[DL _ (Nat.le_refl _)];constructor
  ·rintro⟨j',hj',-,h,s⟩;have:j'=j:=oM;subst this;exact⟨oM,s⟩
  ·intro h;exact⟨j,hj,hj,oM,h.2⟩
 have enm:Fp (Bh (ndL c) (ndL c).length) (Br (ndL c))=usS c.list:=funext (Qi hc);rw[ek,BS _ (by rw[List.length_map];exact hj1) hk,List.getElem_map,List.getElem_map];unfold fJ;rw[List.take_length,←ek,enm];simp only[mem];rw[ek,hv];generalize (ndL c)[j]=i at *;by_cases k5:k=5
 ·subst k5;by_cases s:i.op=32\/i.op=33
  ·rw[if_pos ⟨rfl,s⟩];show some (Value.int .i64 (if i.op=32\/i.op=33 then _ else _))=_;rw[if_pos s];rfl
  ·rw[if_neg (fun q=>s q.2),←hfo];show some (Value.int .i64 (if i.op=32\/i.op=33 then _ else _))=_;rw[if_neg s];rfl
 ·rw[if_neg (fun q=>k5 q.1),←hfo];rcases(show k=0\/k=1\/k=2\/k=3\/k=4\/k=6 by omega)with rfl|rfl|rfl|rfl|rfl|rfl<;>rfl
theorem Jl(hc:(Ah c).1=0):((ndL c).map (F6 (Ak (usR c.list)))).map (ON (Ak (usS c.list)))=(pruneC c).list:=by
 show _=AH (ndK c.list) (Cz (Ak (usR c.list)) (Ak (usS c.list))) c.list c.list.length;rw[GA,List.map_map];refine List.map_congr_left fun i hi=>?_;exact MK _ _ (H7 hc hi).1
end
theorem Mp{w:World}{E R:Nat}{f:Nat->Bool}{p:Option Addr}{q:Nat}(h:w.ownsRow E 3 1 (.slice p R q) R (B2 ((List.range R).map (EB f)))){r:Nat}(hr:r<R)(hf:f r=true):∃g,p=some ⟨g,0,none⟩/\w.cell? ⟨g,r,none⟩=some (.int .i64 (Ak f r:Int)):=by
 obtain⟨g,cap,e9,g1,g2,g3,g4,g5⟩:=Bc h oM;simp only[Value.slice.injEq]at e9;refine⟨g,e9.1,g5 r _ ?_⟩;simp only[B2,List.getElem?_map,List.getElem?_range hr,Option.map_some];unfold EB;rw[if_pos hf]
structure GQ(w:World)(X Z Y:Nat)(fx fy:Nat->Value)(v:World):Prop where
 bel:Below w.heap.size w v
 x:v.rowIs X 40 7 fx
 z:v.rowIs Z 40 7 (Dy 0 0 0 0 0 0 0)
 y:v.rowIs Y 40 7 fy
 ne:X≠Y/\Z≠Y
 ge:w.heap.size<=Y/\w.heap.size<=Z
theorem GQ.put{w:World}{X Z Y:Nat}{fx fy:Nat->Value}{v:World}(h:GQ w X Z Y fx fy v)(k:Nat)(u:Value):GQ w X Z Y fx (fun j=>if j=k then u else fy j) (v.setCell ⟨Y,k,none⟩ u):=
 ⟨h.bel.setCell h.ge.1 _,h.x.setOther h.ne.1 _,h.z.setOther h.ne.2 _,h.y.set k u,h.ne,h.ge⟩
theorem GQ.congr{w:World}{X Z Y:Nat}{fx fy fz:Nat->Value}{v:World}(h:GQ w X Z Y fx fy v)(e:∀j,j<7->fy j=fz j):GQ w X Z Y fx fz v:=⟨h.bel,h.x,h.z,h.y.congr e,h.ne,h.ge⟩
theorem Ly(fr fs:Nat->Bool)(R S:Nat)(i:Aa)(hk:An i.op=true)(hd:Ad i=true->0<=i.d/\i.d<(R:Int)/\fr i.d.toNat=true)(hr:∀r∈A9 i (A4 i.op),0<=r/\r<(R:Int)/\fr r.toNat=true)(hn:(i.op=32\/i.op=33)->0<=i.n/\i.n<(S:Int)/\fs i.n.toNat=true)
 (w:World) (E:Nat) (nv mv:Value) (h1:w.ownsRow E 3 1 nv R (B2 ((List.range R).map (EB fr)))) (h2:w.ownsRow E 3 1 mv S (B2 ((List.range S).map (EB fs)))):
 Calls prog 22 #[B9 i,nv,mv] w fun e w'=>e=.returned (B9 (Cz (Ak fr) (Ak fs) i))/\Below w.heap.size w w':=by
 obtain⟨ra,rb,rc⟩:=F4 i hk;have KS:Hid (∀v,Calls prog 19 #[B9 i] v fun e w'=>e=.returned (.bool (Ad i))/\Below v.heap.size v w'):=fun v=>by rw[←G8];exact E7 _ v
 have KR:Hid (∀v,Calls prog 20 #[B9 i] v fun e w'=>∃p q,e=.returned (.slice p (A9 i (A4 i.op)).length q)/\Below v.heap.size v w'):=fun v=>(CA i v).mono fun e w' ⟨u,g1,g2,g3⟩=>by
  obtain⟨p,q,rfl⟩:=Ao g2;exact⟨p,q,g1,g3⟩
 have mA:(A4 i.op).a≠0->0<=i.a/\i.a<(R:Int)/\fr i.a.toNat=true:=fun h=>hr _ (by unfold A9;simp[h]);have mB:(A4 i.op).b≠0->0<=i.b/\i.b<(R:Int)/\fr i.b.toNat=true:=fun h=>hr _ (by unfold A9;simp[h]);have mC:(A4 i.op).c≠0->0<=i.c/\i.c<(R:Int)/\fr i.c.toNat=true:=fun h=>hr _ (by unfold A9;simp[h]);have hK3:(A9 i (A4 i.op)).length<=3:=D6 _ _;obtain⟨K,hK⟩:∃K,(A9 i (A4 i.op)).length=K:=⟨_,rfl⟩
 rw[hK]at ra rb rc hK3;simp only[hK]at KR;obtain⟨p1,q1,rfl⟩:=Ao h1;obtain⟨p2,q2,rfl⟩:=Ao h2;have HN1:Hid (∀v,Below w.heap.size w v->∀r,r<R->fr r=true->∃g,p1=some ⟨g,0,none⟩/\v.cell? ⟨g,r,none⟩=some (.int .i64 (Ak fr r:Int))):=fun v hb r hr hf=>Mp (Ac h1 hb) hr hf;have HN2:Hid (∀v,Below w.heap.size w v->∀r,r<S->fs r=true->∃g,p2=some ⟨g,0,none⟩/\v.cell? ⟨g,r,none⟩=some (.int .i64 (Ak fs r:Int))):=fun v hb r hr hf=>Mp (Ac h2 hb) hr hf;have hRN:Hid (Cz (Ak fr) (Ak fs) i=⟨i.op,if Ad i=true then(Ak fr i.d.toNat:Int)else i.d,if 1<=K then(Ak fr i.a.toNat:Int)else i.a,if 2<=K then(Ak fr i.b.toNat:Int)else i.b,if 3<=K then(Ak fr i.c.toNat:Int)else i.c,if i.op=32\/i.op=33 then(Ak fs i.n.toNat:Int)else i.n,i.bits⟩):=by
  show Cz _ _ _=_;unfold Cz Ad;have f1:∀ {P Q:Prop} [Decidable P] [Decidable Q] (x y:Int),(¬P↔Q)->(if P then x else y)=if Q then y else x:=fun{P Q} _ _ x y h=>by
   by_cases q:Q
   ·rw[if_pos q,if_neg (h.2 q)]
   ·rw[if_neg q,if_pos (Decidable.byContradiction fun z=>q (h.1 z))]
  rw[f1 _ _ ra,f1 _ _ rb,f1 _ _ rc,f1 (P:=(A4 i.op).d=0) (Q:=decide ((A4 i.op).d≠0)=true) _ _ sM]
 have HMA:Hid (1<=K->0<=i.a/\i.a<(R:Int)/\fr i.a.toNat=true):=fun h=>mA (ra.2 h);have HMB:Hid (2<=K->0<=i.b/\i.b<(R:Int)/\fr i.b.toNat=true):=fun h=>mB (rb.2 h);have HMC:Hid (3<=K->0<=i.c/\i.c<(R:Int)/\fr i.c.toNat=true):=fun h=>mC (rc.2 h);have HMD:=A2 hd;have HMN:=A2 hn;rw[hRN.out];obtain⟨op,d,a,b,e,n,z⟩:=i;unfold B9 at KS KR ⊢;simp only at KS KR HMA HMB HMC HMD HMN ⊢;obtain⟨SD,hSD⟩:∃s,Ad (⟨op,d,a,b,e,n,z⟩:Aa)=s:=⟨_,rfl⟩
 rw[hSD]at KS HMD ⊢;obtain⟨W0,hW0⟩:∃W,(w.alloc (.cells #[.int .i64 op,.int .i64 d,.int .i64 a,.int .i64 b,.int .i64 e,.int .i64 n,.int .u32 z] 40)).alloc (.cells #[.int .i64 0,.int .i64 0,.int .i64 0,.int .i64 0,.int .i64 0,.int .i64 0,.int .u32 0] 40)=W:=⟨_,rfl⟩
 obtain⟨E0,hE0⟩:∃E,w.heap.size=E:=⟨_,rfl⟩
 have hB0:Below w.heap.size w W0:=by rw[←hW0];exact bel (A0 _ _) (A0 _ _)
 have hX0:W0.rowIs E0 40 7 (Dy op d a b e n z):=by rw[←hW0,←hE0];exact(AN w _ _).alloc _
 have hZ0:W0.rowIs (E0+1) 40 7 (Dy 0 0 0 0 0 0 0):=by
  have h9:=AN (w.alloc (.cells #[.int .i64 op,.int .i64 d,.int .i64 a,.int .i64 b,.int .i64 e,.int .i64 n,.int .u32 z] 40)) #[.int .i64 0,.int .i64 0,.int .i64 0,.int .i64 0,.int .i64 0,.int .i64 0,.int .u32 0] 40;rw[hW0,show(w.alloc (.cells #[.int .i64 op,.int .i64 d,.int .i64 a,.int .i64 b,.int .i64 e,.int .i64 n,.int .u32 z] 40)).heap.size=E0+1 by simp[hE0]]at h9;exact h9
 have HBX:Hid (∀v:World,∀X,v.rowIs X 40 7 (Dy op d a b e n z)->v.cell? ⟨X,0,none⟩=some (.int .i64 op)/\v.cell? ⟨X,1,none⟩=some (.int .i64 d)/\v.cell? ⟨X,2,none⟩=some (.int .i64 a)/\v.cell? ⟨X,3,none⟩=some (.int .i64 b)/\v.cell? ⟨X,4,none⟩=some (.int .i64 e)/\v.cell? ⟨X,5,none⟩=some (.int .i64 n)/\v.cell? ⟨X,6,none⟩=some (.int .u32 z)):=fun v X h=>⟨h.cell (i:=0) dE,h.cell (i:=1) dE,h.cell (i:=2) dE,h.cell (i:=3) dE,h.cell (i:=4) dE,h.cell (i:=5) dE,h.cell (i:=6) dE⟩
 obtain⟨x0,x1,x2,x3,x4,x5,x6⟩:=HBX.out W0 E0 hX0;have HRS:Hid (∀v1 v2,Below W0.heap.size W0 v1->Below v1.heap.size v1 v2->GQ w E0 (E0+1) v1.heap.size (Dy op d a b e n z) (Dy op d a b e n z) v2->True):=fun _ _ _ _ _=>trivial;have HBW:Hid (∀v1,Below W0.heap.size W0 v1->∀v2,v2=v1.alloc (.cells #[.int .i64 op,.int .i64 d,.int .i64 a,.int .i64 b,.int .i64 e,.int .i64 n,.int .u32 z] 40)->GQ w E0 (E0+1) v1.heap.size (Dy op d a b e n z) (Dy op d a b e n z) v2):=fun v1 hb v2 e2=>by
  have hs:E0+2<=v1.heap.size:=by
   have h9:=hb.size;have:W0.heap.size=E0+2:=by rw[←hW0];simp[hE0]
   omega
  rw[e2];refine⟨bel (bel hB0 hb) (A0 _ _),(hX0.of_block (hb.block _ hX0.lt)).alloc _,(hZ0.of_block (hb.block _ hZ0.lt)).alloc _,AN v1 _ _,⟨oM,oM⟩,⟨oM,oM⟩⟩
 have HX0:=A2 hX0;have j0:(0:Int)<=0:=oM;clear h1 h2 hd hr hn ra rb rc mA mB mC hk hRN hSD HRS hK hX0 hZ0 hB0;go_enter func22,ntmps22;go_upto_region 1 with fail;try rw[hW0]
 try rw[hE0]
 clear hW0;go_upto_region 2 with(go_at_call 20;(with_reducible refine(KR.out _).mono ?_);rintro e9 w1 ⟨pr,qr,rfl,hb1⟩;have HB1:=A2 hb1;obtain⟨x0,x1,x2,x3,x4,x5,x6⟩:=HBX.out w1 E0 (HX0.out.of_block (hb1.block _ HX0.out.lt));clear hb1)
 obtain⟨W2,hW2⟩:∃W,w1.alloc (.cells #[.int .i64 op,.int .i64 d,.int .i64 a,.int .i64 b,.int .i64 e,.int .i64 n,.int .u32 z] 40)=W:=⟨_,rfl⟩
 have HR2:=A2 (HBW.out w1 HB1.out W2 hW2.symm);obtain⟨Y,hY⟩:∃Y,w1.heap.size=Y:=⟨_,rfl⟩
 rw[hY]at HR2;go_upto_region 3 with fail;try rw[hW2]
 try rw[hY]
 clear x0 x1 x2 x3 x4 x5 x6 hW2 hY HBW HB1 hE0 HX0;obtain⟨Z,hZ⟩:∃Z,E0+1=Z:=⟨_,rfl⟩
 rw[hZ]at HR2;try rw[hZ]
 clear hZ;obtain⟨x0,x1,x2,x3,x4,x5,x6⟩:=HBX.out W2 E0 HR2.out.x;have HRB:Hid (∀v,Below W2.heap.size W2 v->GQ w E0 Z Y (Dy op d a b e n z) (Dy op d a b e n z) v):=fun v hb=>⟨bel HR2.out.bel hb,HR2.out.x.of_block (hb.block _ HR2.out.x.lt),HR2.out.z.of_block (hb.block _ HR2.out.z.lt),HR2.out.y.of_block (hb.block _ HR2.out.y.lt),HR2.out.ne,HR2.out.ge⟩
 go_upto_if 14 with(go_at_call 19;(with_reducible refine(KS.out _).mono ?_);rintro e9 w3 ⟨rfl,hb3⟩;have HR3:=A2 (HRB.out w3 hb3);clear hb3)
 clear x0 x1 x2 x3 x4 x5 x6 HR2 HRB KS KR;go_cut [] (fun wx=>Hid (GQ w E0 Z Y (Dy op d a b e n z) (Dy op (if SD=true then(Ak fr d.toNat:Int)else d) a b e n z) wx))
 case first=>
  cases SD with
  |false=>
   go_wp2;go_meet;exact HR3.out
  |true=>
   obtain⟨g1,g2,g3⟩:=HMD.out rfl;obtain⟨D,rfl⟩:=Int.eq_ofNat_of_zero_le g1;obtain⟨g,rfl,hc⟩:=HN1.out w3 HR3.out.bel D oM Q8;obtain⟨x0,x1,x2,x3,x4,x5,x6⟩:=HBX.out w3 E0 HR3.out.x;have y1:=HR3.out.y.cell (i:=1) dE;have f1:=HR3.out.y.frozen 1;clear g1 g3;go_wp2;go_meet;exact(HR3.out.put 1 _).congr fun j hj=>by
    exact Q5
 case rest=>
  rename World=>V1;obtain⟨d',hd'⟩:∃x:Int,(if SD=true then(Ak fr d.toNat:Int)else d)=x:=⟨_,rfl⟩
  have HR4:=hcut;rw[hd']at HR4;have HEd:=A2 hd';clear hcut HR3 HMD hd';go_upto_if 22 with fail;go_cut [] (fun wx=>Hid (GQ w E0 Z Y (Dy op d a b e n z) (Dy op d' (if 1<=K then(Ak fr a.toNat:Int)else a) b e n z) wx))
  case first=>
   by_cases hk1:1<=K
   ·obtain⟨g1,g2,g3⟩:=HMA.out hk1;obtain⟨D,rfl⟩:=Int.eq_ofNat_of_zero_le g1;obtain⟨g,rfl,hc⟩:=HN1.out V1 HR4.out.bel D oM Q8;obtain⟨x0,x1,x2,x3,x4,x5,x6⟩:=HBX.out V1 E0 HR4.out.x;have y1:=HR4.out.y.cell (i:=2) dE;have f1:=HR4.out.y.frozen 2;have t1:(K:Int)>0:=oM;have t2:(0:Int)<(K:Int):=oM;have HK1:=A2 hk1;clear g1 g3 hk1;go_wp2;go_meet;exact(HR4.out.put 2 _).congr fun j hj=>by
     rw[if_pos HK1.out];exact Q5
   ·have t1:¬ (K:Int)>0:=oM;have t2:¬ (0:Int)<(K:Int):=oM;have HK1:=A2 hk1;clear hk1;go_wp2;go_meet;show GQ _ _ _ _ _ _ _;rw[if_neg HK1.out];exact HR4.out
  case rest=>
   rename World=>V2;obtain⟨a',ha'⟩:∃x:Int,(if 1<=K then(Ak fr a.toNat:Int)else a)=x:=⟨_,rfl⟩
   have HR5:=hcut;rw[ha']at HR5;have HEa:=A2 ha';clear hcut HR4 HMA ha';go_upto_if 30 with fail;go_cut [] (fun wx=>Hid (GQ w E0 Z Y (Dy op d a b e n z) (Dy op d' a' (if 2<=K then(Ak fr b.toNat:Int)else b) e n z) wx))
   case first=>
    by_cases hk1:2<=K
    ·obtain⟨g1,g2,g3⟩:=HMB.out hk1;obtain⟨D,rfl⟩:=Int.eq_ofNat_of_zero_le g1;obtain⟨g,rfl,hc⟩:=HN1.out V2 HR5.out.bel D oM Q8;obtain⟨x0,x1,x2,x3,x4,x5,x6⟩:=HBX.out V2 E0 HR5.out.x;have y1:=HR5.out.y.cell (i:=3) dE;have f1:=HR5.out.y.frozen 3;have t1:(K:Int)>1:=oM;have t2:(1:Int)<(K:Int):=oM;have HK1:=A2 hk1;clear g1 g3 hk1;go_wp2;go_meet;exact(HR5.out.put 3 _).congr fun j hj=>by
      rw[if_pos HK1.out];exact Q5
    ·have t1:¬ (K:Int)>1:=oM;have t2:¬ (1:Int)<(K:Int):=oM;have HK1:=A2 hk1;clear hk1;go_wp2;go_meet;show GQ _ _ _ _ _ _ _;rw[if_neg HK1.out];exact HR5.out
   case rest=>
    rename World=>V3;obtain⟨b',hb'⟩:∃x:Int,(if 2<=K then(Ak fr b.toNat:Int)else b)=x:=⟨_,rfl⟩
    have HR6:=hcut;rw[hb']at HR6;have HEb:=A2 hb';clear hcut HR5 HMB hb';go_upto_if 38 with fail;go_cut [] (fun wx=>Hid (GQ w E0 Z Y (Dy op d a b e n z) (Dy op d' a' b' (if 3<=K then(Ak fr e.toNat:Int)else e) n z) wx))
    case first=>
     by_cases hk1:3<=K
     ·obtain⟨g1,g2,g3⟩:=HMC.out hk1;obtain⟨D,rfl⟩:=Int.eq_ofNat_of_zero_le g1;obtain⟨g,rfl,hc⟩:=HN1.out V3 HR6.out.bel D oM Q8;obtain⟨x0,x1,x2,x3,x4,x5,x6⟩:=HBX.out V3 E0 HR6.out.x;have y1:=HR6.out.y.cell (i:=4) dE;have f1:=HR6.out.y.frozen 4;have t1:(K:Int)>2:=oM;have t2:(2:Int)<(K:Int):=oM;have HK1:=A2 hk1;clear g1 g3 hk1;go_wp2;go_meet;exact(HR6.out.put 4 _).congr fun j hj=>by
       rw[if_pos HK1.out];exact Q5
     ·have t1:¬ (K:Int)>2:=oM;have t2:¬ (2:Int)<(K:Int):=oM;have HK1:=A2 hk1;clear hk1;go_wp2;go_meet;show GQ _ _ _ _ _ _ _;rw[if_neg HK1.out];exact HR6.out
    case rest=>
     rename World=>V4;obtain⟨e',he'⟩:∃x:Int,(if 3<=K then(Ak fr e.toNat:Int)else e)=x:=⟨_,rfl⟩
     have HR7:=hcut;rw[he']at HR7;have HEe:=A2 he';clear hcut HR6 HMC he';obtain⟨x0,x1,x2,x3,x4,x5,x6⟩:=HBX.out V4 E0 HR7.out.x;have HFN:Hid (∀v u,GQ w E0 Z Y (Dy op d a b e n z) (Dy op d' a' b' e' u z) v->v.cell? ⟨Y,0,none⟩=some (.int .i64 op)/\v.cell? ⟨Y,1,none⟩=some (.int .i64 d')/\v.cell? ⟨Y,2,none⟩=some (.int .i64 a')/\v.cell? ⟨Y,3,none⟩=some (.int .i64 b')/\v.cell? ⟨Y,4,none⟩=some (.int .i64 e')/\v.cell? ⟨Y,5,none⟩=some (.int .i64 u)/\v.cell? ⟨Y,6,none⟩=some (.int .u32 z)/\v.cell? ⟨Z,0,none⟩=some (.int .i64 0)/\v.cell? ⟨Z,1,none⟩=some (.int .i64 0)/\v.cell? ⟨Z,2,none⟩=some (.int .i64 0)/\v.cell? ⟨Z,3,none⟩=some (.int .i64 0)/\v.cell? ⟨Z,4,none⟩=some (.int .i64 0)/\v.cell? ⟨Z,5,none⟩=some (.int .i64 0)/\v.cell? ⟨Z,6,none⟩=some (.int .u32 0)/\(∀j,v.frozen? ⟨Z,j,none⟩=false)/\Below w.heap.size w v):=fun v u h=>⟨h.y.cell (i:=0) dE,h.y.cell (i:=1) dE,h.y.cell (i:=2) dE,h.y.cell (i:=3) dE,h.y.cell (i:=4) dE,h.y.cell (i:=5) dE,h.y.cell (i:=6) dE,h.z.cell (i:=0) dE,h.z.cell (i:=1) dE,h.z.cell (i:=2) dE,h.z.cell (i:=3) dE,h.z.cell (i:=4) dE,h.z.cell (i:=5) dE,h.z.cell (i:=6) dE,h.z.frozen,h.bel⟩
     have HGE:=A2 HR7.out.ge.2;go_upto_region 11 with fail;go_cut [52] (fun tv wx=>tv=.bool (decide (op=32\/op=33))/\wx=V4)
     case first=>
      by_cases o:op=32
      ·subst o;go_wp2;go_meet;exact⟨sM,rfl⟩
      ·have o1:(op==32)=false:=by simpa using o
       by_cases o':op=33
       ·subst o';clear o;go_wp2;go_meet;exact⟨sM,rfl⟩
       ·have o2:(op==33)=false:=by simpa using o'
        have HO:Hid (¬ (op=32\/op=33)):=fun h=>h.elim o o';clear o o';go_wp2;go_meet;exact⟨by rw[decide_eq_false HO.out],rfl⟩
     case rest=>
      obtain⟨rfl,rfl⟩:=hcut;rename World=>V5;go_upto_if 52 with fail;go_cut [] (fun wx=>Hid (GQ w E0 Z Y (Dy op d a b e n z) (Dy op d' a' b' e' (if op=32\/op=33 then(Ak fs n.toNat:Int)else n) z) wx))
      case first=>
       by_cases o:op=32\/op=33
       ·obtain⟨g1,g2,g3⟩:=HMN.out o;obtain⟨D,rfl⟩:=Int.eq_ofNat_of_zero_le g1;obtain⟨g,rfl,hc⟩:=HN2.out _ HR7.out.bel D oM Q8;have y1:=HR7.out.y.cell (i:=5) dE;have f1:=HR7.out.y.frozen 5;have HO:=A2 o;have o3:decide (op=32\/op=33)=true:=decide_eq_true o;rw[o3];clear g1 g3 o o3;go_wp2;go_meet;exact(HR7.out.put 5 _).congr fun j hj=>by
         rw[if_pos HO.out];exact Q5
       ·have HO:=A2 o;have o3:decide (op=32\/op=33)=false:=decide_eq_false o;rw[o3];clear o o3;go_wp2;go_meet;show GQ _ _ _ _ _ _ _;rw[if_neg HO.out];exact HR7.out
      case rest=>
       rename World=>V6;obtain⟨n',hn'⟩:∃x:Int,(if op=32\/op=33 then(Ak fs n.toNat:Int)else n)=x:=⟨_,rfl⟩
       have HR8:=hcut;rw[hn']at HR8;have HEn:=A2 hn';clear hcut HR7 hn' x0 x1 x2 x3 x4 x5 x6;obtain⟨y0,y1,y2,y3,y4,y5,y6,z0,z1,z2,z3,z4,z5,z6,zf,hbz⟩:=HFN.out V6 n' HR8.out;have f0:=zf 0;have f1:=zf 1;have f2:=zf 2;have f3:=zf 3;have f4:=zf 4;have f5:=zf 5;have f6:=zf 6;have HBZ:=A2 hbz;clear zf hbz;have hrow:=((((((HR8.out.z.set 0 (.int .i64 op)).set 1 (.int .i64 d')).set 2 (.int .i64 a')).set 3 (.int .i64 b')).set 4 (.int .i64 e')).set 5 (.int .i64 n')).set 6 (.int .u32 z);have HB7:Hid (Below w.heap.size w (((((((V6.setCell ⟨Z,0,none⟩ (.int .i64 op)).setCell ⟨Z,1,none⟩ (.int .i64 d')).setCell ⟨Z,2,none⟩ (.int .i64 a')).setCell ⟨Z,3,none⟩ (.int .i64 b')).setCell ⟨Z,4,none⟩ (.int .i64 e')).setCell ⟨Z,5,none⟩ (.int .i64 n')).setCell ⟨Z,6,none⟩ (.int .u32 z))):=((((((HBZ.out.setCell HGE.out _).setCell HGE.out _).setCell HGE.out _).setCell HGE.out _).setCell HGE.out _).setCell HGE.out _).setCell HGE.out _;obtain⟨W7,hW7⟩:∃W,((((((V6.setCell ⟨Z,0,none⟩ (.int .i64 op)).setCell ⟨Z,1,none⟩ (.int .i64 d')).setCell ⟨Z,2,none⟩ (.int .i64 a')).setCell ⟨Z,3,none⟩ (.int .i64 b')).setCell ⟨Z,4,none⟩ (.int .i64 e')).setCell ⟨Z,5,none⟩ (.int .i64 n')).setCell ⟨Z,6,none⟩ (.int .u32 z)=W:=⟨_,rfl⟩
       rw[hW7]at hrow HB7;have c0:W7.cell? ⟨Z,0,none⟩=some (.int .i64 op):=hrow.cell (i:=0) dE;have c1:W7.cell? ⟨Z,1,none⟩=some (.int .i64 d'):=hrow.cell (i:=1) dE;have c2:W7.cell? ⟨Z,2,none⟩=some (.int .i64 a'):=hrow.cell (i:=2) dE;have c3:W7.cell? ⟨Z,3,none⟩=some (.int .i64 b'):=hrow.cell (i:=3) dE;have c4:W7.cell? ⟨Z,4,none⟩=some (.int .i64 e'):=hrow.cell (i:=4) dE;have c5:W7.cell? ⟨Z,5,none⟩=some (.int .i64 n'):=hrow.cell (i:=5) dE;have c6:W7.cell? ⟨Z,6,none⟩=some (.int .u32 z):=hrow.cell (i:=6) dE;clear hrow;go_upto_region 13 with fail;go_step;go_step;go_step;go_step;go_step;go_step;try rw[hW7]
       clear hW7 y0 y1 y2 y3 y4 y5 y6 z0 z1 z2 z3 z4 z5 z6 f0 f1 f2 f3 f4 f5 f6;go_step;go_step;go_step;go_step;go_step;clear HFN HR8 HN1 HN2 HMN HBX;refine bodyPost_ret (by simp[results,results22,go_sem, *];try rfl) rfl ?_;exact⟨by rw[HEd.out,HEa.out,HEb.out,HEe.out,HEn.out],HB7.out⟩
theorem Ic{B:Nat}{V:World}{e t:TypeId}{z:Value}{sz by':Nat}(ht:prog.underlying t=some (.slice e))(hi:(prog.info? e).map (fun i=>(i.zero,i.size,i.bytes))=some (some z,sz,by'))(hzs:z.cells.size=sz)(hsz:0<sz){p:Option Addr}{n q:Nat}{xs:List Value}(h:V.ownsRow B e sz (.slice p n q) n xs)(hB:B<=V.heap.size)
 (cs:Array Value) (hcs:cs.size=sz) (h1:∀u∈cs.toList,u.oneCell'=true) (hn:n+1<=maxLen) (hb:(n+1)*by'<=140737488355328) (ty:TypeId):
 ∃g c' w',(Builtin.append_ #[t,t] ty #[.slice p n q,.slice (some ⟨V.heap.size,0,none⟩) 1 1]).run prog (V.alloc (.cells cs e)).drew=.ok (.slice (some ⟨g,0,none⟩) (n+1) c') w'/\Below B V w'/\w'.ownsRow B e sz (.slice (some ⟨g,0,none⟩) (n+1) c') (n+1) (xs++cs.toList)/\(∀b,b<V.heap.size->(Value.slice p n q).ownBlock≠some b->w'.heap[b]? =V.heap[b]?)/\((Value.slice p n q).ownBlock=some g\/V.heap.size<g):=by
 obtain⟨i0,hi0,hz0,hz1,hz2⟩:=info_parts hi;have hb0:Below V.heap.size V (V.alloc (.cells cs e)).drew:=bel (A0 _ _) (AY _);have hs:(V.alloc (.cells cs e)).drew.heap.size=V.heap.size+1:=by show(V.alloc (.cells cs e)).heap.size=_;simp
 have h0:=Ac h hb0;obtain⟨g,cap,w3,hr,hown,hgrow,hat,hlt⟩:=run_append_lies (P:=prog) (V.alloc (.cells cs e)).drew t ty B e i0 _ sz by' ht hi0 hz0 hz1 hz2 hzs hsz (.slice p n q) n xs h0 ⟨V.heap.size,0,none⟩ 1 1 cs.toList (by simp[hcs])
  (World.news_of_block (cs:=cs) (t:=e) (fr:=(0,0)) (show(V.alloc (.cells cs e)).heap[V.heap.size]? =_ from heap_alloc_new V _)) h1 dE hn hb oM _ rfl
 exact QY
theorem En{w:World}{B B':Nat}{t t':TypeId}{k k' n n':Nat}{v v':Value}{xs xs':List Value}(h:w.ownsRow B t k v n xs)(h':w.ownsRow B' t' k' v' n' xs')(ht:t≠t'){g:Nat}(hg:v.ownBlock=some g):v'.ownBlock≠some g:=fun hb=>by
 rcases h.2 with⟨rfl,_⟩|⟨g1,cap,cur,rfl,_,hg1,_⟩
 ·exact absurd (show(none:Option Nat)=some g from hg) sM
 rcases h'.2 with⟨rfl,_⟩|⟨g2,cap2,cur2,rfl,_,hg2,_⟩
 ·exact absurd (show(none:Option Nat)=some g from hb) sM
 have e1:g1=g:=Option.some.inj hg;have e2:g2=g:=Option.some.inj hb;rw[e1]at hg1;rw[e2,hg1]at hg2;simp only[Option.some.injEq,Obj.cells.injEq]at hg2;exact ht hg2.2.1
theorem Ig{α:Type}(p:Nat->Bool)(l:List α){k:Nat}(hk:k<=l.length):(Av p l k).length<=k:=by
 rw[E6 p l k hk];exact Nat.le_trans (List.length_filter_le ..) sM
def Hm(l:List Aa)(k:Nat)(f:Nat->Bool):Prop:=∀r,f r=true↔∃j,∃hj:j<l.length,j<k/\Nd l j/\((Ad l[j]=true/\l[j].d.toNat=r)\/r∈Dz l j)
def Hn(l:List Aa)(k:Nat)(f:Nat->Bool):Prop:=∀r,f r=true↔∃j,∃hj:j<l.length,j<k/\Nd l j/\(l[j].op=32\/l[j].op=33)/\l[j].n.toNat=r
theorem Hm.skip{l:List Aa}{k:Nat}{f:Nat->Bool}(h:Hm l k f)(hn:ndK l k=false):Hm l (k+1) f:=fun r=>(h r).trans ⟨fun⟨j,hj,h1,h2⟩=>⟨j,hj,oM,h2⟩,fun⟨j,hj,h1,h2,h3⟩=>⟨j,hj,by
 have:j≠k:=fun e=>by subst e;exact DX.1 hn h2
 omega,h2,h3⟩⟩
theorem Hn.skip{l:List Aa}{k:Nat}{f:Nat->Bool}(h:Hn l k f)(hn:ndK l k=false):Hn l (k+1) f:=fun r=>(h r).trans ⟨fun⟨j,hj,h1,h2⟩=>⟨j,hj,oM,h2⟩,fun⟨j,hj,h1,h2,h3⟩=>⟨j,hj,by
 have:j≠k:=fun e=>by subst e;exact DX.1 hn h2
 omega,h2,h3⟩⟩
theorem Hm.more{l:List Aa}{k:Nat}{f:Nat->Bool}(h:Hm l k f)(hk:k<l.length)(hn:ndK l k=true):Hm l (k+1) (Em (if Ad l[k]=true then CI f l[k].d.toNat else f) (Dz l k)):=fun r=>by
 rw[Fy];have e1:(if Ad l[k]=true then CI f l[k].d.toNat else f) r=true↔f r=true\/(Ad l[k]=true/\l[k].d.toNat=r):=by
  exact Sp
 rw[e1,h r];constructor
 ·rintro((⟨j,hj,h1,h2⟩|q)|q)
  ·exact⟨j,hj,oM,h2⟩
  ·exact⟨k,hk,oM,B0.1 hn,.inl q⟩
  ·exact⟨k,hk,oM,B0.1 hn,.inr q⟩
 ·rintro⟨j,hj,h1,h2,h3⟩;by_cases e:j=k
  ·subst e;exact h3.elim (fun q=>.inl (.inr q)) .inr
  ·exact .inl (.inl ⟨j,hj,oM,h2,h3⟩)
theorem Hn.more{l:List Aa}{k:Nat}{f:Nat->Bool}(h:Hn l k f)(hk:k<l.length)(hn:ndK l k=true):Hn l (k+1) (if l[k].op=32\/l[k].op=33 then CI f l[k].n.toNat else f):=fun r=>by
 have e1:(if l[k].op=32\/l[k].op=33 then CI f l[k].n.toNat else f) r=true↔f r=true\/((l[k].op=32\/l[k].op=33)/\l[k].n.toNat=r):=by
  exact Sp
 rw[e1,h r];constructor
 ·rintro(⟨j,hj,h1,h2⟩|q)
  ·exact⟨j,hj,oM,h2⟩
  ·exact⟨k,hk,oM,B0.1 hn,q⟩
 ·rintro⟨j,hj,h1,h2,h3⟩;by_cases e:j=k
  ·subst e;exact .inr h3
  ·exact .inl ⟨j,hj,oM,h2,h3⟩
theorem Hm.zero(l:List Aa):Hm l 0 (fun _=>false):=fun r=>⟨fun h=>Ho,fun⟨j,hj,h1,_⟩=>absurd h1 oM⟩
theorem Hn.zero(l:List Aa):Hn l 0 (fun _=>false):=fun r=>⟨fun h=>Ho,fun⟨j,hj,h1,_⟩=>absurd h1 oM⟩
theorem Hm.all{c:Cd}(hc:(Ah c).1=0){f:Nat->Bool}(h:Hm c.list c.list.length f):f=usR c.list:=funext fun r=>by
 rw[Bool.eq_iff_iff,h r,Bq];obtain⟨c1,c2,c3⟩:=B8.1 hc;constructor
 ·rintro⟨j,hj,-,h2,h3|h3⟩
  ·exact⟨j,hj,h2,h3.1,h3.2⟩
  ·rw[F3 hj,List.mem_map]at h3;obtain⟨x,hx1,hx2⟩:=h3;have:=Cq c2 hj h2 hx1;rw[hx2]at this;exact Bq.1 this
 ·rintro⟨j,hj,h2,h3,h4⟩;exact⟨j,hj,hj,h2,.inl ⟨h3,h4⟩⟩
theorem Hn.all{l:List Aa}{f:Nat->Bool}(h:Hn l l.length f):f=usS l:=funext fun r=>by
 rw[Bool.eq_iff_iff,h r,Dp];constructor
 ·rintro⟨j,hj,-,h2,h3,h4⟩;exact⟨j,hj,h2,h3,h4⟩
 ·rintro⟨j,hj,h2,h3,h4⟩;exact⟨j,hj,hj,h2,h3,h4⟩
structure Hp(B:Nat)(W:World)(N R S IB RB SB:Nat)(fi fr fs:Nat->Bool)(v:World):Prop where
 bel:Below B W v
 is:v.rowIs IB 4 N (fun j=>.bool (fi j))
 reg:v.rowIs RB 4 R (fun j=>.bool (fr j))
 slot:v.rowIs SB 4 S (fun j=>.bool (fs j))
 ne:IB≠RB/\IB≠SB/\RB≠SB
 ge:B<=IB/\B<=RB/\B<=SB
 le:B<=v.heap.size
structure KU(B:Nat)(W:World)(N R S IB RB SB:Nat)(fi fr fs:Nat->Bool)(X:Nat)(bx:Nat->Value)(rv:Value)(rs:List Int)(v:World):Prop where
 m:Hp B W N R S IB RB SB fi fr fs v
 x:v.rowIs X 40 7 bx
 rr:v.ownsRow B 3 1 rv rs.length (B2 rs)
section
variable {B : Nat} {W : World} {N R S IB RB SB : Nat} {fi fr fs : Nat -> Bool} {v v' : World} {X : Nat} {bx : Nat -> Value} {rv : Value} {rs : List Int}
theorem Hp.below(h:Hp B W N R S IB RB SB fi fr fs v)(hb:Below v.heap.size v v'):Hp B W N R S IB RB SB fi fr fs v':=
 ⟨h.bel.trans (hb.mono h.le),h.is.of_block (hb.block _ h.is.lt),h.reg.of_block (hb.block _ h.reg.lt),h.slot.of_block (hb.block _ h.slot.lt),h.ne,h.ge,Nat.le_trans h.le hb.size⟩
theorem KU.below(h:KU B W N R S IB RB SB fi fr fs X bx rv rs v)(hb:Below v.heap.size v v'):KU B W N R S IB RB SB fi fr fs X bx rv rs v':=⟨h.m.below hb,h.x.of_block (hb.block _ h.x.lt),Ac h.rr hb⟩
theorem Hp.setR(h:Hp B W N R S IB RB SB fi fr fs v)(k:Nat):Hp B W N R S IB RB SB fi (CI fr k) fs (v.setCell ⟨RB,k,none⟩ (.bool true)):=
 ⟨h.bel.setCell h.ge.2.1 _,h.is.setOther h.ne.1 _,FZ h.reg,h.slot.setOther h.ne.2.2.symm _,h.ne,h.ge,by simpa using h.le⟩
theorem Hp.setS(h:Hp B W N R S IB RB SB fi fr fs v)(k:Nat):Hp B W N R S IB RB SB fi fr (CI fs k) (v.setCell ⟨SB,k,none⟩ (.bool true)):=
 ⟨h.bel.setCell h.ge.2.2 _,h.is.setOther h.ne.2.1 _,h.reg.setOther h.ne.2.2 _,FZ h.slot,h.ne,h.ge,by simpa using h.le⟩
theorem KU.setR(h:KU B W N R S IB RB SB fi fr fs X bx rv rs v)(k:Nat):KU B W N R S IB RB SB fi (CI fr k) fs X bx rv rs (v.setCell ⟨RB,k,none⟩ (.bool true)):=⟨h.m.setR k,h.x.setOther (Bd h.x h.m.reg dE) _,E3 h.rr h.m.reg dE⟩
end
structure Ed(B:Nat)(W:World)(N R S IB RB SB:Nat)(fi fr fs:Nat->Bool)(nv mv:Value)(D:Nat)(u0 u1 u2 u3:Value)(l1:List Ty)(l2:List Sl)(l3:List Aa)(v:World):Prop where
 m:Hp B W N R S IB RB SB fi fr fs v
 box:v.rowIs D 27 4 (f4 u0 u1 u2 u3)
 o1:v.ownsRow B 50 2 u1 l1.length (Am Du l1)
 o2:v.ownsRow B 55 5 u2 l2.length (Am E8 l2)
 o3:v.ownsRow B 40 7 u3 l3.length (Am Bf l3)
 n1:v.ownsRow B 3 1 nv R (B2 ((List.range R).map (EB fr)))
 n2:v.ownsRow B 3 1 mv S (B2 ((List.range S).map (EB fs)))
 gD:B<=D
section
variable {B : Nat} {W : World} {N R S IB RB SB : Nat} {fi fr fs : Nat -> Bool} {nv mv : Value} {D : Nat} {u0 u1 u2 u3 : Value} {l1 : List Ty} {l2 : List Sl} {l3 : List Aa} {v v' : World}
theorem Ed.below(h:Ed B W N R S IB RB SB fi fr fs nv mv D u0 u1 u2 u3 l1 l2 l3 v)(hb:Below v.heap.size v v'):Ed B W N R S IB RB SB fi fr fs nv mv D u0 u1 u2 u3 l1 l2 l3 v':=
 ⟨h.m.below hb,h.box.of_block (hb.block _ h.box.lt),Ac h.o1 hb,Ac h.o2 hb,Ac h.o3 hb,Ac h.n1 hb,Ac h.n2 hb,h.gD⟩
theorem Ed.app1D{p:Option Addr}{q:Nat}(h:Ed B W N R S IB RB SB fi fr fs nv mv D u0 (.slice p l1.length q) u2 u3 l1 l2 l3 v)(x:Ty)(hl:l1.length<=1000000)(ty:TypeId):
 ∃g c' w',(Builtin.append_ #[23,23] ty #[.slice p l1.length q,.slice (some ⟨v.heap.size,0,none⟩) 1 1]).run prog (v.alloc (.cells (Du x).toArray 50)).drew=.ok (.slice (some ⟨g,0,none⟩) (l1.length+1) c') w'/\w'.cell? ⟨D,1,none⟩=some (.slice p l1.length q)/\w'.frozen? ⟨D,1,none⟩=false/\(∀b,b<B->w'.heap[b]? =v.heap[b]?)/\(w'.rowIs IB 4 N (fun j=>.bool (fi j))/\w'.rowIs RB 4 R (fun j=>.bool (fr j))/\w'.rowIs SB 4 S (fun j=>.bool (fs j)))/\Ed B W N R S IB RB SB fi fr fs nv mv D u0 (.slice (some ⟨g,0,none⟩) (l1.length+1) c') u2 u3 (l1++[x]) l2 l3 (w'.setCell ⟨D,1,none⟩ (.slice (some ⟨g,0,none⟩) (l1.length+1) c')):=by
 obtain⟨g,c',w',h1,h2,h3,h4,h5⟩:=Ic (t:=23) (e:=50) underlying23 EY rF dE h.o1 h.m.le (Du x).toArray rfl (by simp[Du,Value.oneCell']) mL oM ty;have kr:∀ {b n:Nat} {t':TypeId} {f:Nat->Value},v.rowIs b t' n f->50≠t'->w'.rowIs b t' n f:=fun hr ht=>hr.of_block (h4 _ hr.lt (AF h.o1 hr ht));have ko:∀ {B':Nat} {e':TypeId} {k' n':Nat} {v':Value} {xs':List Value},v.ownsRow B' e' k' v' n' xs'->50≠e'->w'.ownsRow B' e' k' v' n' xs':=fun ho ht=>A7 ho fun b hb=>h4 b (ho.lt b hb).2 (fun e=>En h.o1 ho ht e hb);have hbox:=kr h.box dE;have sr:∀ {b n:Nat} {t':TypeId} {f:Nat->Value} {u:Value},w'.rowIs b t' n f->27≠t'->(w'.setCell ⟨D,1,none⟩ u).rowIs b t' n f:=fun hr ht=>hr.setOther (fun e=>Bd hbox hr ht e.symm) _;have so:∀ {B':Nat} {e':TypeId} {k' n':Nat} {v':Value} {xs':List Value} {u:Value},w'.ownsRow B' e' k' v' n' xs'->e'≠27->(w'.setCell ⟨D,1,none⟩ u).ownsRow B' e' k' v' n' xs':=fun ho ht=>A7 ho fun b hb=>Below.heap_setCell _ _ _ _ (fun e=>AF ho hbox ht (hb.trans (congrArg some e)));refine⟨g,c',w',h1,hbox.cell (i:=1) dE,hbox.frozen 1,fun b hb=>h2.block b hb,⟨kr h.m.is dE,kr h.m.reg dE,kr h.m.slot dE⟩,⟨⟨(h.m.bel.trans h2).setCell h.gD _,sr (kr h.m.is dE) dE,sr (kr h.m.reg dE) dE,sr (kr h.m.slot dE) dE,h.m.ne,h.m.ge,by simpa using Nat.le_trans h.m.le h2.size⟩,(hbox.set 1 _).congr fun j hj=>?_,?_,?_,?_,so (ko h.n1 dE) dE,so (ko h.n2 dE) dE,h.gD⟩⟩
 ·exact Pb
 ·rw[List.length_append,show Am Du (l1++[x])=Am Du l1++Du x by simp[Am]];exact so h3 dE
 ·exact so (ko h.o2 dE) dE
 ·exact so (ko h.o3 dE) dE
theorem Ed.app2D{p:Option Addr}{q:Nat}(h:Ed B W N R S IB RB SB fi fr fs nv mv D u0 u1 (.slice p l2.length q) u3 l1 l2 l3 v)(x:Sl)(hl:l2.length<=1000000)(ty:TypeId):
 ∃g c' w',(Builtin.append_ #[24,24] ty #[.slice p l2.length q,.slice (some ⟨v.heap.size,0,none⟩) 1 1]).run prog (v.alloc (.cells (E8 x).toArray 55)).drew=.ok (.slice (some ⟨g,0,none⟩) (l2.length+1) c') w'/\w'.cell? ⟨D,2,none⟩=some (.slice p l2.length q)/\w'.frozen? ⟨D,2,none⟩=false/\(∀b,b<B->w'.heap[b]? =v.heap[b]?)/\(w'.rowIs IB 4 N (fun j=>.bool (fi j))/\w'.rowIs RB 4 R (fun j=>.bool (fr j))/\w'.rowIs SB 4 S (fun j=>.bool (fs j)))/\Ed B W N R S IB RB SB fi fr fs nv mv D u0 u1 (.slice (some ⟨g,0,none⟩) (l2.length+1) c') u3 l1 (l2++[x]) l3 (w'.setCell ⟨D,2,none⟩ (.slice (some ⟨g,0,none⟩) (l2.length+1) c')):=by
 obtain⟨g,c',w',h1,h2,h3,h4,h5⟩:=Ic (t:=24) (e:=55) underlying24 EX rF dE h.o2 h.m.le (E8 x).toArray rfl (by simp[E8,Value.oneCell']) mL oM ty;have kr:∀ {b n:Nat} {t':TypeId} {f:Nat->Value},v.rowIs b t' n f->55≠t'->w'.rowIs b t' n f:=fun hr ht=>hr.of_block (h4 _ hr.lt (AF h.o2 hr ht));have ko:∀ {B':Nat} {e':TypeId} {k' n':Nat} {v':Value} {xs':List Value},v.ownsRow B' e' k' v' n' xs'->55≠e'->w'.ownsRow B' e' k' v' n' xs':=fun ho ht=>A7 ho fun b hb=>h4 b (ho.lt b hb).2 (fun e=>En h.o2 ho ht e hb);have hbox:=kr h.box dE;have sr:∀ {b n:Nat} {t':TypeId} {f:Nat->Value} {u:Value},w'.rowIs b t' n f->27≠t'->(w'.setCell ⟨D,2,none⟩ u).rowIs b t' n f:=fun hr ht=>hr.setOther (fun e=>Bd hbox hr ht e.symm) _;have so:∀ {B':Nat} {e':TypeId} {k' n':Nat} {v':Value} {xs':List Value} {u:Value},w'.ownsRow B' e' k' v' n' xs'->e'≠27->(w'.setCell ⟨D,2,none⟩ u).ownsRow B' e' k' v' n' xs':=fun ho ht=>A7 ho fun b hb=>Below.heap_setCell _ _ _ _ (fun e=>AF ho hbox ht (hb.trans (congrArg some e)));refine⟨g,c',w',h1,hbox.cell (i:=2) dE,hbox.frozen 2,fun b hb=>h2.block b hb,⟨kr h.m.is dE,kr h.m.reg dE,kr h.m.slot dE⟩,⟨⟨(h.m.bel.trans h2).setCell h.gD _,sr (kr h.m.is dE) dE,sr (kr h.m.reg dE) dE,sr (kr h.m.slot dE) dE,h.m.ne,h.m.ge,by simpa using Nat.le_trans h.m.le h2.size⟩,(hbox.set 2 _).congr fun j hj=>?_,?_,?_,?_,so (ko h.n1 dE) dE,so (ko h.n2 dE) dE,h.gD⟩⟩
 ·exact Pb
 ·exact so (ko h.o1 dE) dE
 ·rw[List.length_append,show Am E8 (l2++[x])=Am E8 l2++E8 x by simp[Am]];exact so h3 dE
 ·exact so (ko h.o3 dE) dE
theorem Ed.app3N{p:Option Addr}{q:Nat}(h:Ed B W N R S IB RB SB fi fr fs nv mv D u0 u1 u2 (.slice p l3.length q) l1 l2 l3 v)(x:Aa)(hl:l3.length<=1000000)(ty:TypeId):
 ∃g c' w',(Builtin.append_ #[25,25] ty #[.slice p l3.length q,.slice (some ⟨v.heap.size,0,none⟩) 1 1]).run prog (v.alloc (.cells (Bf x).toArray 40))=.ok (.slice (some ⟨g,0,none⟩) (l3.length+1) c') w'/\w'.cell? ⟨D,3,none⟩=some (.slice p l3.length q)/\w'.frozen? ⟨D,3,none⟩=false/\(∀b,b<B->w'.heap[b]? =v.heap[b]?)/\(w'.rowIs IB 4 N (fun j=>.bool (fi j))/\w'.rowIs RB 4 R (fun j=>.bool (fr j))/\w'.rowIs SB 4 S (fun j=>.bool (fs j)))/\Ed B W N R S IB RB SB fi fr fs nv mv D u0 u1 u2 (.slice (some ⟨g,0,none⟩) (l3.length+1) c') l1 l2 (l3++[x]) (w'.setCell ⟨D,3,none⟩ (.slice (some ⟨g,0,none⟩) (l3.length+1) c')):=by
 obtain⟨g,c',w',h1,h2,h3,h4,h5⟩:=ED (t:=25) (e:=40) underlying25 EW rF dE h.o3 h.m.le (Bf x).toArray rfl (by simp[Bf,Value.oneCell']) mL oM ty;have kr:∀ {b n:Nat} {t':TypeId} {f:Nat->Value},v.rowIs b t' n f->40≠t'->w'.rowIs b t' n f:=fun hr ht=>hr.of_block (h4 _ hr.lt (AF h.o3 hr ht));have ko:∀ {B':Nat} {e':TypeId} {k' n':Nat} {v':Value} {xs':List Value},v.ownsRow B' e' k' v' n' xs'->40≠e'->w'.ownsRow B' e' k' v' n' xs':=fun ho ht=>A7 ho fun b hb=>h4 b (ho.lt b hb).2 (fun e=>En h.o3 ho ht e hb);have hbox:=kr h.box dE;have sr:∀ {b n:Nat} {t':TypeId} {f:Nat->Value} {u:Value},w'.rowIs b t' n f->27≠t'->(w'.setCell ⟨D,3,none⟩ u).rowIs b t' n f:=fun hr ht=>hr.setOther (fun e=>Bd hbox hr ht e.symm) _;have so:∀ {B':Nat} {e':TypeId} {k' n':Nat} {v':Value} {xs':List Value} {u:Value},w'.ownsRow B' e' k' v' n' xs'->e'≠27->(w'.setCell ⟨D,3,none⟩ u).ownsRow B' e' k' v' n' xs':=fun ho ht=>A7 ho fun b hb=>Below.heap_setCell _ _ _ _ (fun e=>AF ho hbox ht (hb.trans (congrArg some e)));refine⟨g,c',w',h1,hbox.cell (i:=3) dE,hbox.frozen 3,fun b hb=>h2.block b hb,⟨kr h.m.is dE,kr h.m.reg dE,kr h.m.slot dE⟩,⟨⟨(h.m.bel.trans h2).setCell h.gD _,sr (kr h.m.is dE) dE,sr (kr h.m.reg dE) dE,sr (kr h.m.slot dE) dE,h.m.ne,h.m.ge,by simpa using Nat.le_trans h.m.le h2.size⟩,(hbox.set 3 _).congr fun j hj=>?_,?_,?_,?_,so (ko h.n1 dE) dE,so (ko h.n2 dE) dE,h.gD⟩⟩
 ·exact Pb
 ·exact so (ko h.o1 dE) dE
 ·exact so (ko h.o2 dE) dE
 ·rw[List.length_append,show Am Bf (l3++[x])=Am Bf l3++Bf x by simp[Am]];exact so h3 dE
end
end Go.Proofs.Ytnbccaicijcklaa
