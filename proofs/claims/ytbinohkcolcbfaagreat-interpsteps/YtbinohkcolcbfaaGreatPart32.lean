import Derived.Test.YtbinohkcolcbfaaGreatPart28
import Derived.Test.YtbinohkcolcbfaaGreatPart31
import Derived.Test.YtbinohkcolcbfaaGreatPart1
namespace Go.Proofs.YtbinohkcolcbfaaGreat
open Go.RowKit Go.Proofs.Tryz
set_option linter.unusedVariables false
set_option linter.unusedSimpArgs false
set_option maxRecDepth 100000
set_option maxHeartbeats 16000000
def ZOk(c:Cd)(l:List Hd):Prop:=∀j (h:j<c.slots.length),c.slots[j].ty.kind≠2->((l[j]?).getD ⟨[],0⟩).whole=0
structure SlR(c:Cd)(l:List Hd):Prop where
 len:l.length=c.slots.length
 ok:∀j (h:j<c.slots.length) (h':j<l.length),HdOK c c.slots[j].ty l[j]
 z:ZOk c l
theorem Zafk{c:Cd}(hg:Good c){s:Sl}(hs:s∈c.slots)(h2:s.ty.kind≠2):(Ziy c s).whole=0:=by
 have h1:=hg.slots s hs;unfold Zjh Znk at h1;rw[if_neg h2]at h1;simp only[Bool.and_eq_true,beq_iff_eq]at h1;exact h1.2.1
theorem start_z{c:Cd}(hg:Good c):ZOk c (Zjm c):=fun j h h2=>by
 rw[Zjm,List.getElem?_map,List.getElem?_eq_getElem h,Option.map_some,Option.getD_some];exact Zafk hg (List.getElem_mem h) h2
theorem ahJ_at(c:Cd)(l:List Hd)(hl:l.length=c.slots.length):∀ (j:Nat),j<=c.slots.length->∀k (h:k<c.slots.length),(ahJ c l j)[k]? =if k<j/\c.slots[k].keep=false then some (Ziy c c.slots[k])else l[k]?
 |0,_,k,h=>by simp[ahJ]
 |j+1,hj,k,h=>by
  have ih:=ahJ_at c l hl j oM;unfold ahJ;rw[List.getElem?_eq_getElem (show j<c.slots.length by omega)];simp only;cases hkp:c.slots[j].keep with
  |true=>
   simp only[if_true];rw[ih k h];by_cases e:k=j
   ·subst e;rw[hkp];simp
   ·have:k<j+1↔k<j:=oM;simp only[this]
  |false=>
   simp only[Bool.false_eq_true,if_false];by_cases e:k=j
   ·subst e;rw[List.getElem?_set_self (by rw[Zsc,hl];exact h),if_pos ⟨oM,hkp⟩]
   ·rw[List.getElem?_set_ne (fun q=>e q.symm),ih k h];have:k<j+1↔k<j:=oM;simp only[this]
def ahA(c:Cd)(l:List Hd):List Hd:=ahJ c l c.slots.length
theorem Zqg{c:Cd}{l:List Hd}(hl:l.length=c.slots.length):(ahA c l).length=c.slots.length:=by unfold ahA;rw[Zsc,hl]
theorem Zabl{c:Cd}{l:List Hd}(hl:l.length=c.slots.length){k:Nat}(h:k<c.slots.length)(h':k<(ahA c l).length):(ahA c l)[k]=if c.slots[k].keep then l[k]'oM else Ziy c c.slots[k]:=by
 have h1:=ahJ_at c l hl c.slots.length (Nat.le_refl _) k h;have h2:(ahA c l)[k]? =some ((ahA c l)[k]):=List.getElem?_eq_getElem h';unfold ahA at h2 ⊢;rw[h2]at h1;cases hkp:c.slots[k].keep with
 |true=>
  rw[hkp,if_neg sM,List.getElem?_eq_getElem oM]at h1;simp only[Option.some.injEq]at h1;simp only[if_true];exact h1
 |false=>
  rw[if_pos ⟨h,hkp⟩]at h1;simp only[Option.some.injEq]at h1;simp only[Bool.false_eq_true,if_false];exact h1
def f4v(a b c d:Value)(k:Nat):Value:=if k=0 then a else if k=1 then b else if k=2 then c else d
theorem f4v_ok(a b c d:Value):∀k,k<(#[a,b,c,d]:Array Value).size->(#[a,b,c,d]:Array Value)[k]? =some (f4v a b c d k):=by
 intro k hk;have hk':k<4:=hk;obtain rfl|rfl|rfl|rfl:k=0\/k=1\/k=2\/k=3:=oM
 all_goals rfl
structure SB(w:World)(a0 a1 a2 a3 a4:Value)(v:World):Prop where
 bel:Below w.heap.size w v
 r:v.rowIs w.heap.size 38 5 (f5 a0 a1 a2 a3 a4)
 q:v.rowIs (w.heap.size+1) 38 5 (f5 (.slice none 0 0) (.slice none 0 0) (.slice none 0 0) (.slice none 0 0) (.slice none 0 0))
 c:v.rowIs (w.heap.size+1+1) 27 4 (f4v a0 a1 a2 a3)
theorem SB.next{w:World}{a0 a1 a2 a3 a4:Value}{v v':World}(h:SB w a0 a1 a2 a3 a4 v)(k:Below v.heap.size v v'):SB w a0 a1 a2 a3 a4 v':=
 ⟨Go.Proofs.YtbinohkcolcbfaaGreat.bel h.bel k,h.r.of_block (k.block _ h.r.lt),h.q.of_block (k.block _ h.q.lt),h.c.of_block (k.block _ h.c.lt)⟩
theorem SB.start(w:World)(a0 a1 a2 a3 a4:Value):SB w a0 a1 a2 a3 a4 (((w.alloc (.cells #[a0,a1,a2,a3,a4] 38)).alloc (.cells #[.slice none 0 0,.slice none 0 0,.slice none 0 0,.slice none 0 0,.slice none 0 0] 38)).alloc (.cells #[a0,a1,a2,a3] 27)):=by
 have r1:=World.rowIs_alloc w #[a0,a1,a2,a3,a4] 38 _ (Zpw _ _ _ _ _);have r2:=World.rowIs_alloc (w.alloc (.cells #[a0,a1,a2,a3,a4] 38)) #[.slice none 0 0,.slice none 0 0,.slice none 0 0,.slice none 0 0,.slice none 0 0] 38 _ (Zpw _ _ _ _ _);have r3:=World.rowIs_alloc ((w.alloc (.cells #[a0,a1,a2,a3,a4] 38)).alloc (.cells #[.slice none 0 0,.slice none 0 0,.slice none 0 0,.slice none 0 0,.slice none 0 0] 38)) #[a0,a1,a2,a3] 27 _ (f4v_ok _ _ _ _);simp only[World.size_alloc]at r2 r3;exact⟨Go.Proofs.YtbinohkcolcbfaaGreat.bel (Zhq _ _) (Go.Proofs.YtbinohkcolcbfaaGreat.bel (Zhq _ _) (Zhq _ _)),(r1.alloc _).alloc _,r2.alloc _,r3⟩
theorem SB.size{w:World}{a0 a1 a2 a3 a4:Value}{v:World}(h:SB w a0 a1 a2 a3 a4 v):w.heap.size+1+1<v.heap.size:=h.c.lt
structure SpW(w:World)(a0 a1 a2 a3 a4:Value)(FB:Nat)(F:Nat->Value)(v:World):Prop where
 b:SB w a0 a1 a2 a3 a4 v
 f:v.rowIs FB 125 10 F
 hF:w.heap.size+1+1<FB
theorem SpW.next{w:World}{a0 a1 a2 a3 a4:Value}{FB:Nat}{F:Nat->Value}{v v':World}(h:SpW w a0 a1 a2 a3 a4 FB F v)(k:Below v.heap.size v v'):SpW w a0 a1 a2 a3 a4 FB F v':=⟨h.b.next k,h.f.of_block (k.block _ h.f.lt),h.hF⟩
theorem SpW.below{w:World}{a0 a1 a2 a3 a4:Value}{FB B:Nat}{F:Nat->Value}{v v':World}(h:SpW w a0 a1 a2 a3 a4 FB F v)(k:Below B v v')(hB:FB<B):SpW w a0 a1 a2 a3 a4 FB F v':=by
 have hF:=h.hF;have hs:=h.b.bel.size;have hlt:=h.f.lt;refine⟨⟨⟨k.os.trans h.b.bel.os,k.tape.trans h.b.bel.tape,k.output.trans h.b.bel.output,Nat.le_trans hs k.size,fun x hx=>(k.block x oM).trans (h.b.bel.block x hx)⟩,h.b.r.of_block (k.block _ oM),h.b.q.of_block (k.block _ oM),h.b.c.of_block (k.block _ oM)⟩,h.f.of_block (k.block _ hB),h.hF⟩
theorem SpW.put{w:World}{a0 a1 a2 a3 a4:Value}{FB:Nat}{F:Nat->Value}{v:World}(h:SpW w a0 a1 a2 a3 a4 FB F v)(i:Nat)(x:Value):SpW w a0 a1 a2 a3 a4 FB (fun j=>if j=i then x else F j) (v.setCell ⟨FB,i,none⟩ x):=by
 have hF:=h.hF;exact⟨⟨h.b.bel.setCell (by show w.heap.size<=FB;omega) _,h.b.r.setOther (by show w.heap.size≠FB;omega) _,h.b.q.setOther (by show w.heap.size+1≠FB;omega) _,h.b.c.setOther (by show w.heap.size+1+1≠FB;omega) _⟩,h.f.set i x,h.hF⟩
theorem SpW.congr{w:World}{a0 a1 a2 a3 a4:Value}{FB:Nat}{F F':Nat->Value}{v:World}(h:SpW w a0 a1 a2 a3 a4 FB F v)(k:∀j,j<10->F j=F' j):SpW w a0 a1 a2 a3 a4 FB F' v:=⟨h.b,h.f.congr k,h.hF⟩
theorem Zob{P:Nat->Prop}(h0:P 0)(h1:P 1)(h2:P 2)(h3:P 3)(h4:P 4)(h5:P 5)(h6:P 6)(h7:P 7)(h8:P 8)(h9:P 9):∀j,j<10->P j:=by
 intro j hj;obtain rfl|rfl|rfl|rfl|rfl|rfl|rfl|rfl|rfl|rfl:j=0\/j=1\/j=2\/j=3\/j=4\/j=5\/j=6\/j=7\/j=8\/j=9:=oM
 all_goals assumption
theorem SpW.putT{w:World}{a0 a1 a2 a3 a4:Value}{FB:Nat}{F:Nat->Value}{v:World}(h:SpW w a0 a1 a2 a3 a4 FB F v)(b0 b1 b2 b3 b4 b5 b6 b7 b8 b9:Value):SpW w a0 a1 a2 a3 a4 FB (f10 b0 b1 b2 b3 b4 b5 b6 b7 b8 b9) (setT v FB b0 b1 b2 b3 b4 b5 b6 b7 b8 b9):=
 ((((((((((h.put 0 b0).put 1 b1).put 2 b2).put 3 b3).put 4 b4).put 5 b5).put 6 b6).put 7 b7).put 8 b8).put 9 b9).congr (Zob rfl rfl rfl rfl rfl rfl rfl rfl rfl rfl)
def T4(w:World)(T:Nat->Prop)(FB:Nat)(b:Nat):Prop:=T b\/(w.heap.size<=b/\b<=w.heap.size+1+1)\/b=FB
theorem t4_lt{w:World}{T:Nat->Prop}{FB:Nat}(hT:∀b,T b->b<w.heap.size)(hF:w.heap.size+1+1<FB){B:Nat}(hB:FB<B){b:Nat}(h:T4 w T FB b):b<B:=by
 rcases h with h|h|h
 ·have:=hT b h;omega
 ·omega
 ·omega
theorem t4_old{w:World}{T:Nat->Prop}{FB b:Nat}(hF:w.heap.size+1+1<FB)(hb:b<w.heap.size)(h:T4 w T FB b):T b:=by
 rcases h with h|h|h
 ·exact h
 ·omega
 ·omega
theorem Zalk(m:Nat)(h:m<=16384)(w:World):(Instr.makeSlice 36 (.int .i64 m) (.int .i64 m)).run prog w=.ok (.slice (some ⟨w.heap.size,0,none⟩) m m) (w.alloc (.cells (madeCells #[.slice none 0 0,.int .i64 0] (m*2)) 84)):=by
 obtain⟨i,hi,hz,hs,hb⟩:=info_parts Ztt;have hr:=run_make (P:=prog) w 36 84 i _ underlying36 hi hz .i64 .i64 m m oM (Int.le_refl _) (by rw[hb];omega) oM;exact Zfh
theorem Zakj(m i:Nat)(hi:i<m*2):(madeCells #[.slice none 0 0,.int .i64 0] (m*2))[i]? =some (f2 (.slice none 0 0) (.int .i64 0) (i%2)):=by
 unfold madeCells;rw[Array.getElem?_map,Array.getElem?_range];simp[hi];have h2:i%2=0\/i%2=1:=oM;rcases h2 with h|h<;>rw[h]<;>rfl
def x0s(n:Nat):List Cl:=List.replicate n ⟨none,0,⟨[],0⟩⟩
theorem Zafy{T:Nat->Prop}{v:World}{RB m:Nat}(h:v.heap[RB]? =some (.cells (madeCells #[.slice none 0 0,.int .i64 0] (m*2)) 84 (0,0)))(hT:¬T RB):CsT T v (.slice (some ⟨RB,0,none⟩) m m) (x0s m):=by
 have hlt:RB<v.heap.size:=by
  rcases Nat.lt_or_ge RB v.heap.size with h1|h1
  ·exact h1
  ·rw[Array.getElem?_eq_none h1]at h;cases h
 refine⟨⟨_,m,by rw[x0s,List.length_replicate],.inr ⟨RB,0,rfl,hT,hlt,fun i hi j hj=>?_⟩⟩,fun x hx=>?_⟩
 ·rw[x0s,List.length_replicate]at hi;have hj2:j<2:=hj;have hc:v.cell? ⟨RB,0+i*2+j,none⟩=some (f2 (.slice none 0 0) (.int .i64 0) ((0+i*2+j)%2)):=by
   unfold World.cell?;simp only[h];exact Zakj m _ oM
  rw[hc];simp only[x0s,List.getElem_replicate];obtain rfl|rfl:j=0\/j=1:=oM
  ·rw[show(0+i*2+0)%2=0 by omega];rfl
  ·rw[show(0+i*2+1)%2=1 by omega];rfl
 ·rw[x0s]at hx;rw[List.eq_of_mem_replicate hx];exact .inl rfl
theorem Zaqp{B:Nat}{V:World}{e t:TypeId}{z:Value}{sz by':Nat}(ht:prog.underlying t=some (.slice e))(hi:(prog.info? e).map (fun i=>(i.zero,i.size,i.bytes))=some (some z,sz,by'))(hzs:z.cells.size=sz)(hsz:0<sz){p:Option Addr}{n q m:Nat}{xs:List Value}(h:V.ownsRow B e sz (.slice p n q) n xs)(hB:B<=V.heap.size)
 (cs:Array Value) (hm:0<m) (hcs:cs.size=m*sz) (h1:∀u∈cs.toList,u.oneCell'=true) (hn:n+m<=maxLen) (hb:(n+m)*by'<=140737488355328) (ty:TypeId):
 ∃g c' w',(Builtin.append_ #[t,t] ty #[.slice p n q,.slice (some ⟨V.heap.size,0,none⟩) m m]).run prog (V.alloc (.cells cs e))=.ok (.slice (some ⟨g,0,none⟩) (n+m) c') w'/\Below B V w'/\w'.ownsRow B e sz (.slice (some ⟨g,0,none⟩) (n+m) c') (n+m) (xs++cs.toList)/\(∀b,b<V.heap.size->(Value.slice p n q).ownBlock≠some b->w'.heap[b]? =V.heap[b]?)/\((Value.slice p n q).ownBlock=some g\/V.heap.size<g):=by
 obtain⟨i0,hi0,hz0,hz1,hz2⟩:=info_parts hi;have hb0:Below V.heap.size V (V.alloc (.cells cs e)):=Zhq _ _;have hs:(V.alloc (.cells cs e)).heap.size=V.heap.size+1:=sM;have h0:=Ziu h hb0;obtain⟨g,cap,w3,hr,hown,hgrow,hat,hlt⟩:=run_append_lies (P:=prog) (V.alloc (.cells cs e)) t ty B e i0 _ sz by' ht hi0 hz0 hz1 hz2 hzs hsz (.slice p n q) n xs h0 ⟨V.heap.size,0,none⟩ m m cs.toList (by simp[hcs])
  (World.news_of_block (cs:=cs) (t:=e) (fr:=(0,0)) (heap_alloc_new V _)) h1 hm hn hb oM _ rfl
 exact Zds
theorem sp_A{T:Nat->Prop}{w:World}{a0 a1 a2 a3 a4:Value}{v:World}{m:Nat}(h:SB w a0 a1 a2 a3 a4 v)(hT:∀b,T b->b<w.heap.size)(b0 b1 b2 b3 b5 b6 b7 b8 b9:Value):
 SpW w a0 a1 a2 a3 a4 (v.heap.size+1) (f10 b0 b1 b2 b3 (.slice (some ⟨v.heap.size,0,none⟩) m m) b5 b6 b7 b8 b9) ((v.alloc (.cells (madeCells #[.slice none 0 0,.int .i64 0] (m*2)) 84)).alloc (.cells #[b0,b1,b2,b3,.slice (some ⟨v.heap.size,0,none⟩) m m,b5,b6,b7,b8,b9] 125))/\CsT (T4 w T (v.heap.size+1)) ((v.alloc (.cells (madeCells #[.slice none 0 0,.int .i64 0] (m*2)) 84)).alloc (.cells #[b0,b1,b2,b3,.slice (some ⟨v.heap.size,0,none⟩) m m,b5,b6,b7,b8,b9] 125)) (.slice (some ⟨v.heap.size,0,none⟩) m m) (x0s m):=by
 have hsz:=h.size;have r1:=World.rowIs_alloc (v.alloc (.cells (madeCells #[.slice none 0 0,.int .i64 0] (m*2)) 84)) #[b0,b1,b2,b3,.slice (some ⟨v.heap.size,0,none⟩) m m,b5,b6,b7,b8,b9] 125 _ (Zwo _ _ _ _ _ _ _ _ _ _);simp only[World.size_alloc]at r1;refine⟨⟨h.next (bel (Zhq _ _) (Zhq _ _)),r1,oM⟩,Zafy ?_ ?_⟩
 ·rw[(Zhq (v.alloc (.cells (madeCells #[.slice none 0 0,.int .i64 0] (m*2)) 84)) _).block _ sM];exact heap_alloc_new v _
 ·rintro(k|k|k)
  ·have:=hT _ k;omega
  ·omega
  ·omega
theorem sp_B{T:Nat->Prop}{w:World}{a0 a1 a2 a3 a4:Value}{v:World}{m:Nat}(h:SB w a0 a1 a2 a3 a4 v)(hT:∀b,T b->b<w.heap.size)(b0 b1 b2 b3 b5 b6 b7 b8 b9:Value):
 SpW w a0 a1 a2 a3 a4 v.heap.size (f10 b0 b1 b2 b3 (.slice (some ⟨v.heap.size+1,0,none⟩) m m) b5 b6 b7 b8 b9) ((v.alloc (.cells #[b0,b1,b2,b3,.slice (some ⟨v.heap.size+1,0,none⟩) m m,b5,b6,b7,b8,b9] 125)).alloc (.cells (madeCells #[.slice none 0 0,.int .i64 0] (m*2)) 84))/\CsT (T4 w T v.heap.size) ((v.alloc (.cells #[b0,b1,b2,b3,.slice (some ⟨v.heap.size+1,0,none⟩) m m,b5,b6,b7,b8,b9] 125)).alloc (.cells (madeCells #[.slice none 0 0,.int .i64 0] (m*2)) 84)) (.slice (some ⟨v.heap.size+1,0,none⟩) m m) (x0s m):=by
 have hsz:=h.size;have r1:=World.rowIs_alloc v #[b0,b1,b2,b3,.slice (some ⟨v.heap.size+1,0,none⟩) m m,b5,b6,b7,b8,b9] 125 _ (Zwo _ _ _ _ _ _ _ _ _ _);refine⟨⟨h.next (bel (Zhq _ _) (Zhq _ _)),r1.alloc _,oM⟩,Zafy ?_ ?_⟩
 ·have h1:=heap_alloc_new (v.alloc (.cells #[b0,b1,b2,b3,.slice (some ⟨v.heap.size+1,0,none⟩) m m,b5,b6,b7,b8,b9] 125)) (.cells (madeCells #[.slice none 0 0,.int .i64 0] (m*2)) 84);simp only[World.size_alloc]at h1;exact h1
 ·rintro(k|k|k)
  ·have:=hT _ k;omega
  ·omega
  ·omega
structure L1(T:Nat->Prop)(w:World)(a0 a1 a2 a3 a4:Value)(FB E:Nat)(F:Nat->Value)(v:World)(sv:Value)(Y:List Cl):Prop where
 sp:SpW w a0 a1 a2 a3 a4 FB F v
 be:E<=v.heap.size
 cs:CsO E v sv Y
 loc:∀x∈Y,∀b o s,x.p=some ⟨b,o,s⟩->x.h.pats≠[]->¬T4 w T FB b
theorem L1.next{T:Nat->Prop}{w:World}{a0 a1 a2 a3 a4:Value}{FB E:Nat}{F:Nat->Value}{v v':World}{sv:Value}{Y:List Cl}(h:L1 T w a0 a1 a2 a3 a4 FB E F v sv Y)(k:Below v.heap.size v v'):L1 T w a0 a1 a2 a3 a4 FB E F v' sv Y:=⟨h.sp.next k,Nat.le_trans h.be k.size,h.cs.below k,h.loc⟩
theorem L1.put{T:Nat->Prop}{w:World}{a0 a1 a2 a3 a4:Value}{FB E:Nat}{F:Nat->Value}{v v':World}{sv:Value}{Y:List Cl}(h:L1 T w a0 a1 a2 a3 a4 FB E F v sv Y)(hFE:FB<E)(k:Below E v v'){g n c':Nat}{Y':List Cl}(hc:CsO E v' (.slice (some ⟨g,0,none⟩) n c') Y')(hloc:∀x∈Y',∀b o s,x.p=some ⟨b,o,s⟩->x.h.pats≠[]->¬T4 w T FB b):
 v'.cell? ⟨FB,5,none⟩=some (F 5)/\v'.frozen? ⟨FB,5,none⟩=false/\L1 T w a0 a1 a2 a3 a4 FB E (fun j=>if j=5 then .slice (some ⟨g,0,none⟩) n c' else F j) (v'.setCell ⟨FB,5,none⟩ (.slice (some ⟨g,0,none⟩) n c')) (.slice (some ⟨g,0,none⟩) n c') Y':=by
 have hs:=h.sp.below k hFE;have ho:∀b,b≠FB->(v'.setCell ⟨FB,5,none⟩ (.slice (some ⟨g,0,none⟩) n c')).heap[b]? =v'.heap[b]? :=fun b hne=>Below.heap_setCell _ _ _ _ hne;refine⟨hs.f.cell (i:=5) dE,hs.f.frozen 5,hs.put 5 _,?_,⟨Ziv hc.own (fun b hbb=>ho b Zhh),fun x hx=>?_⟩,hloc⟩
 ·have h1:=h.be;have h2:=k.size;simp only[World.size_setCell];omega
 ·exact Zdd
structure OuO(B:Nat)(v:World)(sv:Value)(X:List Cl):Prop where
 own:v.ownsRow B 82 1 sv X.length (flat ouC X)
 nums:∀x∈X,NumA v sv x.p x.h.pats
theorem OuO.below{B:Nat}{v v':World}{sv:Value}{X:List Cl}(h:OuO B v sv X)(k:Below v.heap.size v v'):OuO B v' sv X:=⟨Ziu h.own k,fun x hx=>(h.nums x hx).below k⟩
theorem OuO.nil(B:Nat)(v:World):OuO B v (.slice none 0 0) []:=⟨World.ownsRow_nil _ _ _ 1,fun x hx=>by cases hx⟩
theorem OuO.push{B:Nat}{V:World}{p:Option Addr}{q:Nat}{X:List Cl}(h:OuO B V (.slice p X.length q) X)(hB:B<=V.heap.size)(hX:X.length<=16384)(x:Cl)(hx:NumA V (.slice p X.length q) x.p x.h.pats)(ty:TypeId):
 ∃g c' w',(Builtin.append_ #[123,123] ty #[.slice p X.length q,.slice (some ⟨V.heap.size,0,none⟩) 2 2]).run prog (V.alloc (.cells #[.slice x.p x.h.pats.length x.q,.slice x.p x.h.pats.length x.q] 82))=.ok (.slice (some ⟨g,0,none⟩) (X.length+2) c') w'/\Below B V w'/\OuO B w' (.slice (some ⟨g,0,none⟩) (X.length+2) c') (X++[x,x]):=by
 obtain⟨g,c',w',hr,hb,ho,hk,hg⟩:=Zaqp (V:=V) (m:=2) underlying123 Zyz rfl dE h.own hB #[.slice x.p x.h.pats.length x.q,.slice x.p x.h.pats.length x.q] dE rfl (fun u hu=>by simp at hu;subst hu;rfl) mL oM ty;refine⟨g,c',w',hr,hb,⟨?_,fun y hy=>?_⟩⟩
 ·rw[List.length_append,Zrj];exact ho
 ·rcases List.mem_append.1 hy with e|e
  ·exact(h.nums y e).grow hk hg
  ·simp only[List.mem_cons,List.not_mem_nil,or_false,or_self]at e;subst e;exact hx.grow hk hg
structure L2(T:Nat->Prop)(w:World)(a0 a1 a2 a3 a4:Value)(FB E:Nat)(F:Nat->Value)(v:World)(sv:Value)(Y:List Cl):Prop where
 sp:SpW w a0 a1 a2 a3 a4 FB F v
 be:E<=v.heap.size
 cs:OuO E v sv Y
 loc:∀x∈Y,∀b o s,x.p=some ⟨b,o,s⟩->x.h.pats≠[]->¬T4 w T FB b
theorem L2.next{T:Nat->Prop}{w:World}{a0 a1 a2 a3 a4:Value}{FB E:Nat}{F:Nat->Value}{v v':World}{sv:Value}{Y:List Cl}(h:L2 T w a0 a1 a2 a3 a4 FB E F v sv Y)(k:Below v.heap.size v v'):L2 T w a0 a1 a2 a3 a4 FB E F v' sv Y:=⟨h.sp.next k,Nat.le_trans h.be k.size,h.cs.below k,h.loc⟩
theorem L2.put{T:Nat->Prop}{w:World}{a0 a1 a2 a3 a4:Value}{FB E:Nat}{F:Nat->Value}{v v':World}{sv:Value}{Y:List Cl}(h:L2 T w a0 a1 a2 a3 a4 FB E F v sv Y)(hFE:FB<E)(k:Below E v v'){g n c':Nat}{Y':List Cl}(hc:OuO E v' (.slice (some ⟨g,0,none⟩) n c') Y')(hloc:∀x∈Y',∀b o s,x.p=some ⟨b,o,s⟩->x.h.pats≠[]->¬T4 w T FB b):
 v'.cell? ⟨FB,6,none⟩=some (F 6)/\v'.frozen? ⟨FB,6,none⟩=false/\L2 T w a0 a1 a2 a3 a4 FB E (fun j=>if j=6 then .slice (some ⟨g,0,none⟩) n c' else F j) (v'.setCell ⟨FB,6,none⟩ (.slice (some ⟨g,0,none⟩) n c')) (.slice (some ⟨g,0,none⟩) n c') Y':=by
 have hs:=h.sp.below k hFE;have ho:∀b,b≠FB->(v'.setCell ⟨FB,6,none⟩ (.slice (some ⟨g,0,none⟩) n c')).heap[b]? =v'.heap[b]? :=fun b hne=>Below.heap_setCell _ _ _ _ hne;refine⟨hs.f.cell (i:=6) dE,hs.f.frozen 6,hs.put 6 _,?_,⟨Ziv hc.own (fun b hbb=>ho b Zhh),fun x hx=>?_⟩,hloc⟩
 ·have h1:=h.be;have h2:=k.size;simp only[World.size_setCell];omega
 ·exact Zdd
theorem ouo_out{T:Nat->Prop}{E:Nat}{v:World}{sv:Value}{Y:List Cl}(h:OuO E v sv Y)(hT:∀b,T b->b<E)(hl:∀x∈Y,∀b o s,x.p=some ⟨b,o,s⟩->x.h.pats≠[]->¬T b):OuT T v sv Y:=by
 refine⟨Zsi Zug h.own hT,fun x hx=>?_⟩;exact Zdx
def out0(c:Cd)(j:Nat):List Hd:=(List.range (2*j)).map fun i=>⟨List.replicate (lenOf c ((i/2:Nat):Int)) 0,0⟩
theorem Zamu(c:Cd)(j:Nat):out0 c (j+1)=out0 c j++[⟨List.replicate (lenOf c (j:Int)) 0,0⟩,⟨List.replicate (lenOf c (j:Int)) 0,0⟩]:=by
 unfold out0;rw[show 2*(j+1)=2*j+1+1 by omega,Znp,Znp,List.append_assoc,show 2*j/2=j by omega,show(2*j+1)/2=j by omega];rfl
theorem Zakp{c:Cd}{l:List Hd}{Y O:List Cl}(hg:Good c)(hso:SlR c l)(hY:Y.map (·.h)=ahA c l)(hO:O.map (·.h)=out0 c c.sign.length):RelR c (Zkx c l) (x0s c.regs.length) Y O:=by
 have hol:O.length=2*c.sign.length:=by have h1:=congrArg List.length hO;rw[List.length_map,out0,List.length_map,List.length_range]at h1;exact h1
 refine⟨by rw[x0s,List.length_replicate],fun x hx=>?_,hY,fun j h h2=>?_,hol,fun p n hp hn=>?_⟩
 ·rw[x0s]at hx;rw[List.eq_of_mem_replicate hx];exact⟨fun y hy=>(by cases hy),Nat.zero_le _,Int.le_refl _,by show(0:Int)<=2147483647;decide⟩
 ·show(((ahA c l)[j]?).getD ⟨[],0⟩).whole=0;have hjl:j<(ahA c l).length:=by rw[Zqg hso.len];exact h
  rw[List.getElem?_eq_getElem hjl,Option.getD_some,Zabl hso.len h hjl];split
  ·have h3:=hso.z j h h2;rw[List.getElem?_eq_getElem (by rw[hso.len];exact h),Option.getD_some]at h3;exact h3
  ·exact Zafk hg (List.getElem_mem h) h2
 ·have hn2:n<2:=by unfold Zia at hn;split at hn<;>omega
  have hil:2*p+n<O.length:=by rw[hol];omega
  have hoh:(O[2*p+n]).h=⟨List.replicate (lenOf c (p:Int)) 0,0⟩:=by
   have h5:(O.map (·.h))[2*p+n]? =some (O[2*p+n]).h:=by rw[List.getElem?_map,List.getElem?_eq_getElem hil];rfl
   rw[hO,out0,List.getElem?_map,List.getElem?_range oM]at h5;simp only[Option.map_some,Option.some.injEq]at h5;rw[←h5,show(2*p+n)/2=p by omega]
  refine⟨O[2*p+n],List.getElem?_eq_getElem hil,by rw[hoh];simp,fun y hy=>?_,fun e he=>?_⟩
  ·rw[hoh]at hy;simp only at hy;rw[List.eq_of_mem_replicate hy];exact Zpv
  ·rw[hoh];show atL (List.replicate (lenOf c (p:Int)) 0) e=0;rw[Zud _ _ he]
theorem Zaot{c:Cd}{l:List Hd}(hg:Good c)(hk:CdOk c)(hso:SlR c l):OkF c (Zkx c l):=by
 refine⟨fun _=>Zpv,fun _=>⟨Int.le_refl _,by show(0:Int)<=2147483647;decide⟩,fun _ y hy=>(by cases hy),fun _=>Nat.zero_le _,Zqg hso.len,fun j h h'=>?_⟩;have h3:j<(ahA c l).length:=h';show HdOK c c.slots[j].ty ((ahA c l)[j]'h3);rw[Zabl hso.len h h3];split
 ·exact hso.ok j h (by rw[hso.len];exact h)
 ·exact Zuw hg (List.getElem_mem h) (hk.sbits _ (List.getElem_mem h))
end Go.Proofs.YtbinohkcolcbfaaGreat
set_option maxRecDepth 100000
set_option maxHeartbeats 16000000
namespace Go.Proofs.YtbinohkcolcbfaaGreat
open Go.RowKit Go.Proofs.Tryz
set_option linter.unusedVariables false
set_option linter.unusedSimpArgs false
theorem Zaiq{c:Cd}(hg:Good c){i:Ins}{s:Wk}(t:Zjb c s i=true)(v0 v1 v2 v3:Value)(w:World)(hv:CdV w v0 v1 v2 v3 c):
 Calls prog 47 #[.agg #[v0,v1,v2,v3],.agg #[.int .i64 i.op,.int .i64 i.d,.int .i64 i.a,.int .i64 i.b,.int .i64 i.c,.int .i64 i.n,.int .u32 i.bits]] w fun e w'=>(∃n:Nat,n<=4096/\e=.returned (.int .i64 (n:Int)))/\Below w.heap.size w w':=by
 obtain⟨hk,h2,_,_⟩:=Zjw t;obtain⟨op,D,A,B,Ec,nn,bt⟩:=i;simp only at hk ⊢;have hk':=hk;unfold Zig at hk';simp only[Bool.and_eq_true,decide_eq_true_eq]at hk';by_cases h1:(3<=op/\op<=15)\/op=29\/op=30\/op=32
 ·have hd:(rowP op).d≠0:=(Zacg hk).2 oM;have:=Zie (Zoa h2) hd;simp only at this;obtain⟨kd,rfl⟩:∃n:Nat,D=(n:Int):=⟨D.toNat,oM⟩
  exact Zaqs c hg v0 v1 v2 v3 op A B Ec nn bt h1 kd oM w hv
 ·by_cases h3:op=31\/op=33\/op=19\/op=20
  ·have ha:(rowP op).a≠0:=by rcases h3 with rfl|rfl|rfl|rfl<;>decide
   have:=Zie (Zmj h2) ha;simp only at this;obtain⟨ka,rfl⟩:∃n:Nat,A=(n:Int):=⟨A.toNat,oM⟩
   exact Zaqo c hg v0 v1 v2 v3 op D B Ec nn bt h3 ka oM w hv
  ·exact Zapt v0 v1 v2 v3 op D A B Ec nn bt oM w
structure L3(T:Nat->Prop)(w:World)(a0 a1 a2 a3 a4:Value)(FB:Nat)(pr p5 p6:Option Addr)(n1 qr n2 q5 no q6:Nat)(gv pv:Value)(ct:Int)(X S O:List Cl)(v:World):Prop where
 sp:SpW w a0 a1 a2 a3 a4 FB (f10 a0 a1 a2 a3 (.slice pr n1 qr) (.slice p5 n2 q5) (.slice p6 no q6) gv pv (.int .i64 ct)) v
 cr:CsT (T4 w T FB) v (.slice pr n1 qr) X
 cs:CsT (T4 w T FB) v (.slice p5 n2 q5) S
 co:OuT (T4 w T FB) v (.slice p6 no q6) O
 ol:O.length=no
section
variable {T : Nat -> Prop} {w : World} {a0 a1 a2 a3 a4 : Value} {FB : Nat} {pr p5 p6 : Option Addr} {n1 qr n2 q5 no q6 : Nat} {gv pv : Value} {ct : Int} {X S O : List Cl} {v v' : World}
theorem L3.next(h:L3 T w a0 a1 a2 a3 a4 FB pr p5 p6 n1 qr n2 q5 no q6 gv pv ct X S O v)(k:Below v.heap.size v v'):L3 T w a0 a1 a2 a3 a4 FB pr p5 p6 n1 qr n2 q5 no q6 gv pv ct X S O v':=⟨h.sp.next k,h.cr.below k,h.cs.below k,h.co.below k,h.ol⟩
theorem L3.cost(h:L3 T w a0 a1 a2 a3 a4 FB pr p5 p6 n1 qr n2 q5 no q6 gv pv ct X S O v)(ct':Int):L3 T w a0 a1 a2 a3 a4 FB pr p5 p6 n1 qr n2 q5 no q6 gv pv ct' X S O (v.setCell ⟨FB,9,none⟩ (.int .i64 ct')):=by
 have hu:Un (fun b=>b=FB) v (v.setCell ⟨FB,9,none⟩ (.int .i64 ct')):=(Un.refl _ _).setCell rF _;exact⟨(h.sp.put 9 _).congr (Zob rfl rfl rfl rfl rfl rfl rfl rfl rfl rfl),h.cr.un hu (fun b _ e=>.inr (.inr e)),h.cs.un hu (fun b _ e=>.inr (.inr e)),h.co.un hu (fun b _ e=>.inr (.inr e)),h.ol⟩
theorem L3.put(h:L3 T w a0 a1 a2 a3 a4 FB pr p5 p6 n1 qr n2 q5 no q6 gv pv ct X S O v)(k:Below v.heap.size v v'){pr' p5' p6':Option Addr}{qr' q5' q6':Nat}{X' S' O':List Cl}(h1:CsT (T4 w T FB) v' (.slice pr' n1 qr') X')(h2:CsT (T4 w T FB) v' (.slice p5' n2 q5') S')(h3:OuT (T4 w T FB) v' (.slice p6' no q6') O')(hl:O'.length=O.length):
 L3 T w a0 a1 a2 a3 a4 FB pr' p5' p6' n1 qr' n2 q5' no q6' gv pv ct X' S' O' (setT v' FB a0 a1 a2 a3 (.slice pr' n1 qr') (.slice p5' n2 q5') (.slice p6' no q6') gv pv (.int .i64 ct)):=by
 have hu:=Zub v' FB a0 a1 a2 a3 (.slice pr' n1 qr') (.slice p5' n2 q5') (.slice p6' no q6') gv pv (.int .i64 ct);exact⟨(h.sp.next k).putT _ _ _ _ _ _ _ _ _ _,h1.un hu (fun b _ e=>.inr (.inr e)),h2.un hu (fun b _ e=>.inr (.inr e)),h3.un hu (fun b _ e=>.inr (.inr e)),hl.trans h.ol⟩
theorem L3.cells(h:L3 T w a0 a1 a2 a3 a4 FB pr p5 p6 n1 qr n2 q5 no q6 gv pv ct X S O v):v.cell? ⟨FB,0,none⟩=some a0/\v.cell? ⟨FB,1,none⟩=some a1/\v.cell? ⟨FB,2,none⟩=some a2/\v.cell? ⟨FB,3,none⟩=some a3/\v.cell? ⟨FB,4,none⟩=some (.slice pr n1 qr)/\v.cell? ⟨FB,5,none⟩=some (.slice p5 n2 q5)/\v.cell? ⟨FB,6,none⟩=some (.slice p6 no q6)/\v.cell? ⟨FB,7,none⟩=some gv/\v.cell? ⟨FB,8,none⟩=some pv/\v.cell? ⟨FB,9,none⟩=some (.int .i64 ct):=
 ⟨h.sp.f.cell (i:=0) dE,h.sp.f.cell (i:=1) dE,h.sp.f.cell (i:=2) dE,h.sp.f.cell (i:=3) dE,h.sp.f.cell (i:=4) dE,h.sp.f.cell (i:=5) dE,h.sp.f.cell (i:=6) dE,h.sp.f.cell (i:=7) dE,h.sp.f.cell (i:=8) dE,h.sp.f.cell (i:=9) dE⟩
theorem L3.frz(h:L3 T w a0 a1 a2 a3 a4 FB pr p5 p6 n1 qr n2 q5 no q6 gv pv ct X S O v):∀i,v.frozen? ⟨FB,i,none⟩=false:=fun i=>h.sp.f.frozen i
theorem L3.code(h:L3 T w a0 a1 a2 a3 a4 FB pr p5 p6 n1 qr n2 q5 no q6 gv pv ct X S O v):v.cell? ⟨w.heap.size+1+1,0,none⟩=some a0/\v.cell? ⟨w.heap.size+1+1,1,none⟩=some a1/\v.cell? ⟨w.heap.size+1+1,2,none⟩=some a2/\v.cell? ⟨w.heap.size+1+1,3,none⟩=some a3:=
 ⟨h.sp.b.c.cell (i:=0) dE,h.sp.b.c.cell (i:=1) dE,h.sp.b.c.cell (i:=2) dE,h.sp.b.c.cell (i:=3) dE⟩
end
theorem box7{v:World}{XB:Nat}{b0 b1 b2 b3 b4 b5 b6:Value}(h:v.rowIs XB 45 7 (f7 b0 b1 b2 b3 b4 b5 b6)):v.cell? ⟨XB,0,none⟩=some b0/\v.cell? ⟨XB,1,none⟩=some b1/\v.cell? ⟨XB,2,none⟩=some b2/\v.cell? ⟨XB,3,none⟩=some b3/\v.cell? ⟨XB,4,none⟩=some b4/\v.cell? ⟨XB,5,none⟩=some b5/\v.cell? ⟨XB,6,none⟩=some b6:=
 ⟨h.cell (i:=0) dE,h.cell (i:=1) dE,h.cell (i:=2) dE,h.cell (i:=3) dE,h.cell (i:=4) dE,h.cell (i:=5) dE,h.cell (i:=6) dE⟩
end Go.Proofs.YtbinohkcolcbfaaGreat
