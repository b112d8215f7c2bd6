import Derived.Test.YtnbccaicijcklaaTks28
import Derived.Test.YtnbccaicijcklaaTks25
import Derived.Test.YtnbccaicijcklaaTks16
import Derived.Deep.DeepCutAuto
import Derived.Test.YtnbccaicijcklaaTks21
import Derived.Test.YtnbccaicijcklaaTks1
namespace Go.Proofs.Ytnbccaicijcklaa
open Go.RowKit Go.Proofs.Try
set_option linter.all false
set_option maxRecDepth 100000
set_option maxHeartbeats 16000000
theorem Io{α:Type}{k:Nat}{f:α->List Value}(hf:∀x,(f x).length=k){l:List α}(w:World)(cs:Array Value)(t:TypeId)(h:cs.toList=Am f l)(c:Nat):AR k f (w.alloc (.cells cs t)) (.slice (some ⟨w.heap.size,0,none⟩) l.length c) l:=by
 refine⟨_,_,rfl,.inr ⟨w.heap.size,0,rfl,fun i hi j hj=>?_⟩⟩;have hj':j<k:=by rw[←hf l[i]];exact hj
 have h1:=DW hf l i j hi hj';rw[←h]at h1;have h2:cs[0+i*k+j]? =some (f l[i])[j]:=by
  rw[Nat.zero_add,←Array.getElem?_toList,h1,List.getElem?_eq_getElem hj]
 have h3:(w.alloc (.cells cs t)).heap[w.heap.size]? =some (.cells cs t (0,0)):=heap_alloc_new w _;unfold World.cell?;simp only[h3];exact h2
theorem EJ{α:Type}{k:Nat}{f:α->List Value}(hf:∀x,(f x).length=k){l:List α}(w:World)(cs:Array Value)(t:TypeId)(h:cs.toList=Am f l)(c:Nat){n:Nat}(hn:w.heap.size=n):AR k f (w.alloc (.cells cs t)) (.slice (some ⟨n,0,none⟩) l.length c) l:=by
 subst hn;exact Io hf w cs t h c
def GW:List Bt:=[⟨⟨#[119]⟩,1,1⟩]
theorem FN(a:Int)(h:a=0\/a=2):(Ah (BF GW a)).1=0:=by rcases h with rfl|rfl<;>decide+kernel
theorem JM(a:Int)(h:a=0\/a=2):Ba (BF GW a):=by rcases h with rfl|rfl<;>exact⟨dE,dE,dE,dE,dE,dE,dE⟩
def Oc:Cd:=⟨[],[],[],[⟨35,0,0,0,0,0,0⟩]⟩
theorem IQ:(Ah Oc).1≠0:=by decide+kernel
theorem Od:Ba Oc:=⟨dE,dE,dE,dE,dE,dE,dE⟩
theorem Md:pruneC (BF GW 2)=BF GW 2:=I5 GW (B8.1 (FN 2 (.inr rfl))).2.1
def fV(xs:List Value)(o:Nat):Value:=(xs[o]?).getD undef
theorem OS{w:World}{d:Nat}{l:List Aa}{cap:Nat}(h:w.rowIs d 40 (l.length*7) (fV (Am Bf l))):AR 7 Bf w (.slice (some ⟨d,0,none⟩) l.length cap) l:=by
 refine⟨_,_,rfl,.inr ⟨d,0,rfl,fun i hi j hj=>?_⟩⟩;have hj7:j<7:=by rw[Bz]at hj;exact hj
 have hlt:0+i*7+j<l.length*7:=oM;rw[h.cell hlt];have:=DW Bz l i j hi hj7;unfold fV;rw[Nat.zero_add,this,List.getElem?_eq_getElem hj];rfl
theorem Nn{w:World}{cs:Array Value}{t:TypeId}{n m:Nat}{xs:List Value}(hn:w.heap.size=n)(hx:cs.toList=xs)(hm:cs.size=m):(w.alloc (.cells cs t)).rowIs n t m (fV xs):=by
 subst hn hm;refine(AN w cs t).congr fun i hi=>?_;unfold BV fV;rw[←hx,Array.getElem?_eq_getElem hi,List.getElem?_eq_getElem (by simpa using hi)];simp
structure RE(w w':World)(a b s d:Nat):Prop where
 cd:BP w' (.slice (some ⟨a,0,none⟩) 1 1) (.slice (some ⟨b,0,none⟩) 3 3) (.slice (some ⟨s,0,none⟩) 1 1) (.slice (some ⟨d,0,none⟩) 5 5) (BF GW 0)
 row:w'.rowIs d 40 35 (fV (Am Bf (B4 0)))
 ne:a≠d/\b≠d/\s≠d
 ge:w.heap.size<=d
 bel:Below w.heap.size w w'
theorem J7(w:World):Calls prog 23 #[] w fun e w'=>∃a b s d,e=.returned (.agg #[.slice (some ⟨a,0,none⟩) 1 1,.slice (some ⟨b,0,none⟩) 3 3,.slice (some ⟨s,0,none⟩) 1 1,.slice (some ⟨d,0,none⟩) 5 5])/\RE w w' a b s d:=by
 go_enter func23,ntmps23;go_wp2;refine bodyPost_ret (by simp[results,results23,go_sem];try rfl) rfl ?_;refine⟨_,_,_,_,rfl,?_,?_,?_,?_,gG⟩
 ·exact⟨(((EJ (l:=(BF GW 0).sign) D4 _ _ _ rF 1 sM).below (A0 _ _)).below (A0 _ _)).below (A0 _ _),((EJ (l:=(BF GW 0).regs) Ec _ _ _ rF 3 sM).below (A0 _ _)).below (A0 _ _),(EJ (l:=(BF GW 0).slots) E9 _ _ _ rF 1 sM).below (A0 _ _),EJ (l:=(BF GW 0).list) Bz _ _ _ rF 5 sM⟩
 ·exact Nn (xs:=Am Bf (B4 0)) sM rF rF
 ·refine⟨?_,?_,?_⟩<;>(simp;try omega)
 ·first|omega|(simp;omega)
theorem PC{w w1:World}{a b s d:Nat}(h:RE w w1 a b s d){v:World}(hb:Below w1.heap.size w1 v):BP (v.setCell ⟨d,30,none⟩ (.int .i64 2)) (.slice (some ⟨a,0,none⟩) 1 1) (.slice (some ⟨b,0,none⟩) 3 3) (.slice (some ⟨s,0,none⟩) 1 1) (.slice (some ⟨d,0,none⟩) 5 5) (BF GW 2):=by
 have hc:=h.cd.below hb;have hr:=h.row.of_block (hb.block _ h.row.lt);have keep:∀ {α:Type} {k:Nat} {g:α->List Value} {l:List α} {x n cp:Nat},AR k g v (.slice (some ⟨x,0,none⟩) n cp) l->x≠d->AR k g (v.setCell ⟨d,30,none⟩ (.int .i64 2)) (.slice (some ⟨x,0,none⟩) n cp) l:=fun{α k g l x n cp} h1 hx=>by
  obtain⟨p,c,e,h2⟩:=h1;refine⟨p,c,e,h2.imp id fun⟨b',o',e',h3⟩=>⟨b',o',e',fun i hi=>(h3 i hi).of_block ?_⟩⟩;simp only[Value.slice.injEq]at e;rw[←e.1]at e';simp only[Option.some.injEq,Addr.mk.injEq]at e';rw[←e'.1];exact Below.heap_setCell _ _ _ _ hx
 refine⟨keep hc.sign h.ne.1,keep hc.regs h.ne.2.1,keep hc.slots h.ne.2.2,?_⟩;refine OS (l:=B4 2) (cap:=5) ((hr.set 30 (.int .i64 2)).congr fun o ho=>?_);have e:Am Bf (B4 2)=(Am Bf (B4 0)).set 30 (.int .i64 2):=rfl;unfold fV;rw[e];by_cases q:o=30
 ·rw[if_pos q,q,List.getElem?_set_self dE];rfl
 ·rw[if_neg q,List.getElem?_set_ne (fun w=>q w.symm)]
theorem Jw(w:World):Calls prog 9 #[] w fun e w'=>e=.returned (.bool true)/\Below w.heap.size w w':=by
 have KL:=A2 J7;obtain⟨e1,e2,e3⟩:=J6 GW;have KP0:Hid (∀ (v:World) (v0 v1 v2 v3:Value),BP v v0 v1 v2 v3 (BF GW 0)->Calls prog 6 #[.agg #[v0,v1,v2,v3]] v fun e w'=>∃x0 x1 x2 x3 m y0 y1 y2 y3,e=.returned (.tuple #[.agg #[.slice x0 m y0,.slice x1 1 y1,.slice x2 0 y2,.slice x3 2 y3],.int .i64 0])/\Below v.heap.size v w'):=fun v v0 v1 v2 v3 h=>(Er v0 v1 v2 v3 _ (JM 0 (.inl rfl)) v h (FN 0 (.inl rfl))).mono fun e w' ⟨u0,u1,u2,u3,h1,h2,h3,h4⟩=>by
  obtain⟨x0,y0,rfl,-⟩:=h2.sign;obtain⟨x1,y1,rfl,-⟩:=h2.regs;obtain⟨x2,y2,rfl,-⟩:=h2.slots;obtain⟨x3,y3,rfl,-⟩:=h2.list;rw[e1,e2,e3]at h1;exact⟨x0,x1,x2,x3,_,y0,y1,y2,y3,h1,h4⟩
 have KP2:Hid (∀ (v:World) (v0 v1 v2 v3:Value),BP v v0 v1 v2 v3 (BF GW 2)->Calls prog 6 #[.agg #[v0,v1,v2,v3]] v fun e w'=>∃x0 x1 x2 x3 n0 n1 n2 n3 y0 y1 y2 y3,e=.returned (.tuple #[.agg #[.slice x0 n0 y0,.slice x1 n1 y1,.slice x2 n2 y2,.slice x3 n3 y3],.int .i64 0])/\BP w' (.slice x0 n0 y0) (.slice x1 n1 y1) (.slice x2 n2 y2) (.slice x3 n3 y3) (BF GW 2)/\Below v.heap.size v w'):=fun v v0 v1 v2 v3 h=>(Er v0 v1 v2 v3 _ (JM 2 (.inr rfl)) v h (FN 2 (.inr rfl))).mono fun e w' ⟨u0,u1,u2,u3,h1,h2,h3,h4⟩=>by
  rw[Md]at h2;obtain⟨x0,y0,rfl,-⟩:=h2.sign;obtain⟨x1,y1,rfl,-⟩:=h2.regs;obtain⟨x2,y2,rfl,-⟩:=h2.slots;obtain⟨x3,y3,rfl,-⟩:=h2.list;exact⟨x0,x1,x2,x3,_,_,_,_,y0,y1,y2,y3,h1,h2,h4⟩
 have KB:Hid (∀ (v:World) (n:Nat),v.heap.size=n->Calls prog 6 #[.agg #[.slice none 0 0,.slice none 0 0,.slice none 0 0,.slice (some ⟨n,0,none⟩) 1 1]] (v.alloc (.cells #[.int .i64 35,.int .i64 0,.int .i64 0,.int .i64 0,.int .i64 0,.int .i64 0,.int .u32 0] 40)) fun e w'=>e=.returned (.tuple #[.agg #[.slice none 0 0,.slice none 0 0,.slice none 0 0,.slice none 0 0],.int .i64 160])/\Below v.heap.size v w'):=fun v n hn=>by
  subst hn;exact(GC (.slice none 0 0) (.slice none 0 0) (.slice none 0 0) (.slice (some ⟨v.heap.size,0,none⟩) 1 1) Oc Od _ ⟨⟨none,0,rfl,.inl rfl⟩,⟨none,0,rfl,.inl rfl⟩,⟨none,0,rfl,.inl rfl⟩,Io (l:=Oc.list) Bz v _ _ rF 1⟩ IQ).mono fun e w' h=>⟨h.1,bel (A0 _ _) h.2⟩
 have KE:Hid (∀ (v:World) (x0 x1 x2 x3 y0 y1 y2 y3:Value),BP v x0 x1 x2 x3 (BF GW 2)->BP v y0 y1 y2 y3 (BF GW 2)->Calls prog 8 #[.agg #[x0,x1,x2,x3],.agg #[y0,y1,y2,y3]] v fun e w'=>e=.returned (.bool true)/\Below v.heap.size v w'):=fun v x0 x1 x2 x3 y0 y1 y2 y3 h1 h2=>by
  have h9:=G5 x0 x1 x2 x3 y0 y1 y2 y3 _ _ (JM 2 (.inr rfl)) (JM 2 (.inr rfl)) v h1 h2;rw[Hz]at h9;exact h9
 clear e1 e2 e3;go_enter func9,ntmps9;go_upto_region 2 with(first
  |(go_at_call 23;(with_reducible refine(KL.out _).mono ?_);rintro e w1 ⟨a,b,s,d,rfl,hl1⟩;have HL1:=A2 hl1;clear hl1)
  |(go_at_call 6;(with_reducible refine(KP0.out _ _ _ _ _ HL1.out.cd).mono ?_);rintro e w2 ⟨x0,x1,x2,x3,m,y0,y1,y2,y3,rfl,hb2⟩;have HB2:=A2 hb2;clear hb2))
 obtain⟨A1,hA1⟩:∃W,w2.alloc (.cells #[.slice x0 m y0,.slice x1 1 y1,.slice x2 0 y2,.slice x3 2 y3] 27)=W:=⟨_,rfl⟩
 try rw[hA1]
 obtain⟨B1,hB1⟩:∃B,w2.heap.size=B:=⟨_,rfl⟩
 have HR1:Hid (A1.rowIs B1 27 4 (BV #[.slice x0 m y0,.slice x1 1 y1,.slice x2 0 y2,.slice x3 2 y3])):=by rw[←hA1,←hB1];exact AN w2 _ _
 have HBA1:Hid (Below w.heap.size w A1):=by rw[←hA1];exact bel HL1.out.bel (bel HB2.out (A0 _ _))
 rw[hB1];clear hA1 hB1 HL1 HB2;go_upto_region 3 with(go_at_call 23;(with_reducible refine(KL.out _).mono ?_);rintro e w3 ⟨a',b',s',d',rfl,hl3⟩;have HL3:=A2 hl3;clear hl3)
 obtain⟨A3,hA3⟩:∃W,w3.alloc (.cells #[.slice (some ⟨a',0,none⟩) 1 1,.slice (some ⟨b',0,none⟩) 3 3,.slice (some ⟨s',0,none⟩) 1 1,.slice (some ⟨d',0,none⟩) 5 5] 27)=W:=⟨_,rfl⟩
 try rw[hA3]
 obtain⟨B3,hB3⟩:∃B,w3.heap.size=B:=⟨_,rfl⟩
 have HR3:Hid (A3.rowIs B3 27 4 (BV #[.slice (some ⟨a',0,none⟩) 1 1,.slice (some ⟨b',0,none⟩) 3 3,.slice (some ⟨s',0,none⟩) 1 1,.slice (some ⟨d',0,none⟩) 5 5])):=by rw[←hA3,←hB3];exact AN w3 _ _
 have HB3A:Hid (Below w3.heap.size w3 A3):=by rw[←hA3];exact A0 _ _
 have hrl:=HL3.out.row.of_block (HB3A.out.block _ HL3.out.row.lt);have c30:=hrl.cell (i:=30) dE;have f30:=hrl.frozen 30;have b33:A3.cell? ⟨B3,3,none⟩=some (.slice (some ⟨d',0,none⟩) 5 5):=HR3.out.cell (i:=3) dE;have HDN:Hid (d'≠B3/\d'≠B1/\w.heap.size<=d'):=by
  have h1:=HL3.out.row.lt;have h2:=HR1.out.lt;have h3:=HL3.out.ge;have h4:=HBA1.out.size;exact⟨oM,oM,oM⟩
 obtain⟨W4,hW4⟩:∃W,A3.setCell ⟨d',30,none⟩ (.int .i64 2)=W:=⟨_,rfl⟩
 have HCD4:Hid (BP W4 (.slice (some ⟨a',0,none⟩) 1 1) (.slice (some ⟨b',0,none⟩) 3 3) (.slice (some ⟨s',0,none⟩) 1 1) (.slice (some ⟨d',0,none⟩) 5 5) (BF GW 2)):=by rw[←hW4];exact PC HL3.out HB3A.out
 have HR34:Hid (W4.rowIs B3 27 4 (BV #[.slice (some ⟨a',0,none⟩) 1 1,.slice (some ⟨b',0,none⟩) 3 3,.slice (some ⟨s',0,none⟩) 1 1,.slice (some ⟨d',0,none⟩) 5 5])):=by rw[←hW4];exact HR3.out.setOther (a:=⟨d',30,none⟩) HDN.out.1.symm _
 have HR14:Hid (W4.rowIs B1 27 4 (BV #[.slice x0 m y0,.slice x1 1 y1,.slice x2 0 y2,.slice x3 2 y3])):=by
  have h9:=HR1.out.of_block ((bel HL3.out.bel HB3A.out).block _ HR1.out.lt);rw[←hW4];exact h9.setOther (a:=⟨d',30,none⟩) HDN.out.2.1.symm _
 have HB4:Hid (Below w.heap.size w W4):=by rw[←hW4];exact(bel HBA1.out (bel HL3.out.bel HB3A.out)).setCell HDN.out.2.2 _
 rw[hB3];clear hA3 hB3 HL3 HB3A hrl HR3 HR1 HBA1 HDN;go_upto_region 4 with fail;try rw[hW4]
 clear hW4 c30 f30 b33;have i0:W4.cell? ⟨B3,0,none⟩=some (.slice (some ⟨a',0,none⟩) 1 1):=HR34.out.cell (i:=0) dE;have i1:W4.cell? ⟨B3,1,none⟩=some (.slice (some ⟨b',0,none⟩) 3 3):=HR34.out.cell (i:=1) dE;have i2:W4.cell? ⟨B3,2,none⟩=some (.slice (some ⟨s',0,none⟩) 1 1):=HR34.out.cell (i:=2) dE;have i3:W4.cell? ⟨B3,3,none⟩=some (.slice (some ⟨d',0,none⟩) 5 5):=HR34.out.cell (i:=3) dE;go_upto_region 5 with(go_at_call 6;(with_reducible refine(KP2.out _ _ _ _ _ HCD4.out).mono ?_);rintro e w5 ⟨z0,z1,z2,z3,n0,n1,n2,n3,t0,t1,t2,t3,rfl,hcd5,hb5⟩;have HCD5:=A2 hcd5;have HB5:=A2 hb5;clear hcd5 hb5)
 obtain⟨A5,hA5⟩:∃W,w5.alloc (.cells #[.slice z0 n0 t0,.slice z1 n1 t1,.slice z2 n2 t2,.slice z3 n3 t3] 27)=W:=⟨_,rfl⟩
 try rw[hA5]
 obtain⟨B5,hB5'⟩:∃B,w5.heap.size=B:=⟨_,rfl⟩
 have HR5:Hid (A5.rowIs B5 27 4 (BV #[.slice z0 n0 t0,.slice z1 n1 t1,.slice z2 n2 t2,.slice z3 n3 t3])):=by rw[←hA5,←hB5'];exact AN w5 _ _
 have HB45:Hid (Below W4.heap.size W4 A5):=by rw[←hA5];exact bel HB5.out (A0 _ _)
 have HCB5:Hid (BP A5 (.slice z0 n0 t0) (.slice z1 n1 t1) (.slice z2 n2 t2) (.slice z3 n3 t3) (BF GW 2)):=by rw[←hA5];exact HCD5.out.below (A0 _ _)
 rw[hB5'];clear hA5 hB5' HB5 HCD5 i0 i1 i2 i3;go_upto_region 6 with(go_at_call 6;(with_reducible refine(KB.out A5 _ rF).mono ?_);rintro e w6 ⟨rfl,hb6⟩;have HB6:=A2 hb6;clear hb6)
 obtain⟨A6,hA6⟩:∃W,w6.alloc (.cells #[.slice none 0 0,.slice none 0 0,.slice none 0 0,.slice none 0 0] 27)=W:=⟨_,rfl⟩
 try rw[hA6]
 have HB56:Hid (Below A5.heap.size A5 A6):=by rw[←hA6];exact bel HB6.out (A0 _ _)
 have HB46:Hid (Below W4.heap.size W4 A6):=bel HB45.out HB56.out;have h1:=HR14.out.of_block (HB46.out.block _ HR14.out.lt);have h3:=HR34.out.of_block (HB46.out.block _ HR34.out.lt);have h5:=HR5.out.of_block (HB56.out.block _ HR5.out.lt);have g1:A6.cell? ⟨B1,1,none⟩=some (.slice x1 1 y1):=h1.cell (i:=1) dE;have g2:A6.cell? ⟨B1,2,none⟩=some (.slice x2 0 y2):=h1.cell (i:=2) dE;have g3:A6.cell? ⟨B1,3,none⟩=some (.slice x3 2 y3):=h1.cell (i:=3) dE;have i0:A6.cell? ⟨B3,0,none⟩=some (.slice (some ⟨a',0,none⟩) 1 1):=h3.cell (i:=0) dE;have i1:A6.cell? ⟨B3,1,none⟩=some (.slice (some ⟨b',0,none⟩) 3 3):=h3.cell (i:=1) dE;have i2:A6.cell? ⟨B3,2,none⟩=some (.slice (some ⟨s',0,none⟩) 1 1):=h3.cell (i:=2) dE;have i3:A6.cell? ⟨B3,3,none⟩=some (.slice (some ⟨d',0,none⟩) 5 5):=h3.cell (i:=3) dE;have j0:A6.cell? ⟨B5,0,none⟩=some (.slice z0 n0 t0):=h5.cell (i:=0) dE;have j1:A6.cell? ⟨B5,1,none⟩=some (.slice z1 n1 t1):=h5.cell (i:=1) dE;have j2:A6.cell? ⟨B5,2,none⟩=some (.slice z2 n2 t2):=h5.cell (i:=2) dE;have j3:A6.cell? ⟨B5,3,none⟩=some (.slice z3 n3 t3):=h5.cell (i:=3) dE;have KQ:=A2 (KE.out A6 _ _ _ _ _ _ _ _ (HCB5.out.below HB56.out) (HCD4.out.below HB46.out));have HBW:Hid (Below w.heap.size w A6):=bel HB4.out HB46.out;clear h1 h3 h5 hA6 HB6;go_wp2_with(go_at_call 8;(with_reducible refine(KQ.out).mono ?_);rintro e w7 ⟨rfl,hb7⟩;have HB7:=A2 hb7;clear hb7);go_ret;exact⟨rfl,bel HBW.out HB7.out⟩
theorem Lr{c:Cd}(hk:Ba c):Ba (pruneC c):=by
 refine⟨hk.signL,hk.names,Nat.le_trans (He _ _) hk.regsL,Nat.le_trans (He _ _) hk.slotsL,Nat.le_trans Gm hk.listL,fun s hs=>hk.sbits s (MA hs),fun i hi=>?_⟩;obtain⟨k,h1,-,-,e⟩:=JQ _ (Nat.le_refl _) hi;rw[e];exact hk.ibits (c.list[k]) (List.getElem_mem h1)
theorem G3(v0 v1 v2 v3:Value)(c D:Cd)(r:Int)(hk:Ba c)(hz:Pm c)(hkD:Ba D)(w:World)(hv:BP w v0 v1 v2 v3 c)
 (KP:Hid (∀ (v:World) (x0 x1 x2 x3:Value),BP v x0 x1 x2 x3 c->Calls prog 6 #[.agg #[x0,x1,x2,x3]] v fun e w'=>∃u0 u1 u2 u3,e=.returned (.tuple #[.agg #[u0,u1,u2,u3],.int .i64 r])/\BP w' u0 u1 u2 u3 D/\Below v.heap.size v w'))
 (KQ:Hid (∀ (v:World) (x0 x1 x2 x3:Value),BP v x0 x1 x2 x3 c->Calls prog 7 #[.agg #[x0,x1,x2,x3]] v fun e w'=>∃u0 u1 u2 u3,e=.returned (.tuple #[.agg #[u0,u1,u2,u3],.int .i64 r])/\BP w' u0 u1 u2 u3 D/\Below v.heap.size v w')):
 Calls prog 3 #[.agg #[v0,v1,v2,v3]] w fun e w'=>e=.returned (.bool true)/\Below w.heap.size w w':=by
 have KT:Hid (∀v,Below w.heap.size w v->Calls prog 5 #[.agg #[v0,v1,v2,v3]] v fun e w'=>∃u0 u1 u2 u3,e=.returned (.agg #[u0,u1,u2,u3])/\BP w' u0 u1 u2 u3 c/\Below v.heap.size v w'):=fun v hb=>(Jx v0 v1 v2 v3 c hz v (hv.below hb)).mono fun e w' ⟨u0,u1,u2,u3,h1,h2,_,h4⟩=>⟨u0,u1,u2,u3,h1,h2,h4⟩
 have KE:Hid (∀ (Z:Cd),Ba Z->∀ (v:World) (x0 x1 x2 x3 y0 y1 y2 y3:Value),BP v x0 x1 x2 x3 Z->BP v y0 y1 y2 y3 Z->Calls prog 8 #[.agg #[x0,x1,x2,x3],.agg #[y0,y1,y2,y3]] v fun e w'=>e=.returned (.bool true)/\Below v.heap.size v w'):=fun Z hZ v x0 x1 x2 x3 y0 y1 y2 y3 h1 h2=>by
  have h9:=G5 x0 x1 x2 x3 y0 y1 y2 y3 _ _ hZ hZ v h1 h2;rw[Hz]at h9;exact h9
 have KS:=A2 Jw;have HK:=A2 hk;have HKD:=A2 hkD;have HV:=A2 hv;have rr:(r==r)=true:=sM;obtain⟨c0,c0',rfl⟩:∃p q,v0=.slice p c.sign.length q:=by obtain⟨p,q,e,_⟩:=hv.sign;exact⟨p,q,e⟩
 obtain⟨c1,c1',rfl⟩:∃p q,v1=.slice p c.regs.length q:=by obtain⟨p,q,e,_⟩:=hv.regs;exact⟨p,q,e⟩
 obtain⟨c2,c2',rfl⟩:∃p q,v2=.slice p c.slots.length q:=by obtain⟨p,q,e,_⟩:=hv.slots;exact⟨p,q,e⟩
 obtain⟨c3,c3',rfl⟩:∃p q,v3=.slice p c.list.length q:=by obtain⟨p,q,e,_⟩:=hv.list;exact⟨p,q,e⟩
 obtain⟨W0,hW0⟩:∃W,w.alloc (.cells #[.slice c0 c.sign.length c0',.slice c1 c.regs.length c1',.slice c2 c.slots.length c2',.slice c3 c.list.length c3'] 27)=W:=⟨_,rfl⟩
 have HB0:Hid (Below w.heap.size w W0):=by rw[←hW0];exact A0 _ _
 have HRW0:Hid (W0.rowIs w.heap.size 27 4 (BV #[.slice c0 c.sign.length c0',.slice c1 c.regs.length c1',.slice c2 c.slots.length c2',.slice c3 c.list.length c3'])):=by rw[←hW0];exact AN w _ _
 obtain⟨X,hX⟩:∃X,w.heap.size=X:=⟨_,rfl⟩
 have HX:=A2 hX;rw[hX]at HRW0;have k0:W0.cell? ⟨X,0,none⟩=some (.slice c0 c.sign.length c0'):=HRW0.out.cell (i:=0) dE;have k1:W0.cell? ⟨X,1,none⟩=some (.slice c1 c.regs.length c1'):=HRW0.out.cell (i:=1) dE;have k2:W0.cell? ⟨X,2,none⟩=some (.slice c2 c.slots.length c2'):=HRW0.out.cell (i:=2) dE;have k3:W0.cell? ⟨X,3,none⟩=some (.slice c3 c.list.length c3'):=HRW0.out.cell (i:=3) dE;clear hv hk hz hkD;go_enter func3,ntmps3;go_upto_region 1 with fail;try rw[hW0]
 try rw[hX]
 clear hW0 hX;go_upto_region 2 with(go_at_call 5;(with_reducible refine(KT.out _ HB0.out).mono ?_);rintro e w1 ⟨u0,u1,u2,u3,rfl,hcd,hb1⟩;obtain⟨t0,t0',rfl⟩:∃p q,u0=.slice p c.sign.length q:=Ri;obtain⟨t1,t1',rfl⟩:∃p q,u1=.slice p c.regs.length q:=Rj;obtain⟨t2,t2',rfl⟩:∃p q,u2=.slice p c.slots.length q:=Rh;obtain⟨t3,t3',rfl⟩:∃p q,u3=.slice p c.list.length q:=Rl;have HCT:=A2 hcd;have HB1:=A2 hb1;clear hcd hb1)
 clear k0 k1 k2 k3;obtain⟨W1,hW1⟩:∃W,w1.alloc (.cells #[.slice t0 c.sign.length t0',.slice t1 c.regs.length t1',.slice t2 c.slots.length t2',.slice t3 c.list.length t3'] 27)=W:=⟨_,rfl⟩
 try rw[hW1]
 have HKW1:Hid (Below w1.heap.size w1 W1):=by rw[←hW1];exact A0 _ _
 obtain⟨TB,hTB⟩:∃x,w1.heap.size=x:=⟨_,rfl⟩
 have HRW1:Hid (W1.rowIs TB 27 4 (BV #[.slice t0 c.sign.length t0',.slice t1 c.regs.length t1',.slice t2 c.slots.length t2',.slice t3 c.list.length t3'])):=by rw[←hW1,←hTB];exact AN w1 _ _
 try rw[hTB]
 have HCT1:Hid (BP W1 (.slice t0 c.sign.length t0') (.slice t1 c.regs.length t1') (.slice t2 c.slots.length t2') (.slice t3 c.list.length t3') c):=HCT.out.below HKW1.out;have HB01:Hid (Below W0.heap.size W0 W1):=bel HB1.out HKW1.out;have t_0:W1.cell? ⟨TB,0,none⟩=some (.slice t0 c.sign.length t0'):=HRW1.out.cell (i:=0) dE;have t_1:W1.cell? ⟨TB,1,none⟩=some (.slice t1 c.regs.length t1'):=HRW1.out.cell (i:=1) dE;have t_2:W1.cell? ⟨TB,2,none⟩=some (.slice t2 c.slots.length t2'):=HRW1.out.cell (i:=2) dE;have t_3:W1.cell? ⟨TB,3,none⟩=some (.slice t3 c.list.length t3'):=HRW1.out.cell (i:=3) dE;clear hW1 hTB HCT HB1 HKW1;have KP1:=A2 (KP.out W1 _ _ _ _ HCT1.out);go_upto_region 3 with(go_at_call 6;(with_reducible refine(KP1.out).mono ?_);rintro e w2 ⟨u0,u1,u2,u3,rfl,hcd,hb2⟩;obtain⟨a0,a0',rfl⟩:∃p q,u0=.slice p D.sign.length q:=Ri;obtain⟨a1,a1',rfl⟩:∃p q,u1=.slice p D.regs.length q:=Rj;obtain⟨a2,a2',rfl⟩:∃p q,u2=.slice p D.slots.length q:=Rh;obtain⟨a3,a3',rfl⟩:∃p q,u3=.slice p D.list.length q:=Rl;have HCA:=A2 hcd;have HB2:=A2 hb2;clear hcd hb2)
 clear t_0 t_1 t_2 t_3;obtain⟨W2,hW2⟩:∃W,w2.alloc (.cells #[.slice a0 D.sign.length a0',.slice a1 D.regs.length a1',.slice a2 D.slots.length a2',.slice a3 D.list.length a3'] 27)=W:=⟨_,rfl⟩
 try rw[hW2]
 have HKW2:Hid (Below w2.heap.size w2 W2):=by rw[←hW2];exact A0 _ _
 obtain⟨AB,hAB⟩:∃x,w2.heap.size=x:=⟨_,rfl⟩
 have HRW2:Hid (W2.rowIs AB 27 4 (BV #[.slice a0 D.sign.length a0',.slice a1 D.regs.length a1',.slice a2 D.slots.length a2',.slice a3 D.list.length a3'])):=by rw[←hW2,←hAB];exact AN w2 _ _
 try rw[hAB]
 have HCA2:Hid (BP W2 (.slice a0 D.sign.length a0') (.slice a1 D.regs.length a1') (.slice a2 D.slots.length a2') (.slice a3 D.list.length a3') D):=HCA.out.below HKW2.out;have HB12:Hid (Below W1.heap.size W1 W2):=bel HB2.out HKW2.out;have HB02:Hid (Below W0.heap.size W0 W2):=bel HB01.out HB12.out;have HRC2:Hid (W2.rowIs X 27 4 _):=HRW0.out.of_block (HB02.out.block _ HRW0.out.lt);have k0:W2.cell? ⟨X,0,none⟩=some (.slice c0 c.sign.length c0'):=HRC2.out.cell (i:=0) dE;have k1:W2.cell? ⟨X,1,none⟩=some (.slice c1 c.regs.length c1'):=HRC2.out.cell (i:=1) dE;have k2:W2.cell? ⟨X,2,none⟩=some (.slice c2 c.slots.length c2'):=HRC2.out.cell (i:=2) dE;have k3:W2.cell? ⟨X,3,none⟩=some (.slice c3 c.list.length c3'):=HRC2.out.cell (i:=3) dE;have HCC2:Hid (BP W2 (.slice c0 c.sign.length c0') (.slice c1 c.regs.length c1') (.slice c2 c.slots.length c2') (.slice c3 c.list.length c3') c):=HV.out.below (bel HB0.out HB02.out);clear hW2 hAB HCA HB2 HKW2;have KQ2:=A2 (KQ.out W2 _ _ _ _ HCC2.out);go_upto_region 4 with(go_at_call 7;(with_reducible refine(KQ2.out).mono ?_);rintro e w3 ⟨u0,u1,u2,u3,rfl,hcd,hb3⟩;obtain⟨b0,b0',rfl⟩:∃p q,u0=.slice p D.sign.length q:=Ri;obtain⟨b1,b1',rfl⟩:∃p q,u1=.slice p D.regs.length q:=Rj;obtain⟨b2,b2',rfl⟩:∃p q,u2=.slice p D.slots.length q:=Rh;obtain⟨b3,b3',rfl⟩:∃p q,u3=.slice p D.list.length q:=Rl;have HCB:=A2 hcd;have HB3:=A2 hb3;clear hcd hb3)
 clear k0 k1 k2 k3;obtain⟨W3,hW3⟩:∃W,w3.alloc (.cells #[.slice b0 D.sign.length b0',.slice b1 D.regs.length b1',.slice b2 D.slots.length b2',.slice b3 D.list.length b3'] 27)=W:=⟨_,rfl⟩
 try rw[hW3]
 have HKW3:Hid (Below w3.heap.size w3 W3):=by rw[←hW3];exact A0 _ _
 obtain⟨BB,hBB⟩:∃x,w3.heap.size=x:=⟨_,rfl⟩
 have HRW3:Hid (W3.rowIs BB 27 4 (BV #[.slice b0 D.sign.length b0',.slice b1 D.regs.length b1',.slice b2 D.slots.length b2',.slice b3 D.list.length b3'])):=by rw[←hW3,←hBB];exact AN w3 _ _
 try rw[hBB]
 have HCB3:Hid (BP W3 (.slice b0 D.sign.length b0') (.slice b1 D.regs.length b1') (.slice b2 D.slots.length b2') (.slice b3 D.list.length b3') D):=HCB.out.below HKW3.out;have HB23:Hid (Below W2.heap.size W2 W3):=bel HB3.out HKW3.out;have HCA3:Hid (BP W3 (.slice a0 D.sign.length a0') (.slice a1 D.regs.length a1') (.slice a2 D.slots.length a2') (.slice a3 D.list.length a3') D):=HCA2.out.below HB23.out;have HRA3:Hid (W3.rowIs AB 27 4 _):=HRW2.out.of_block (HB23.out.block _ HRW2.out.lt);have a_0:W3.cell? ⟨AB,0,none⟩=some (.slice a0 D.sign.length a0'):=HRA3.out.cell (i:=0) dE;have a_1:W3.cell? ⟨AB,1,none⟩=some (.slice a1 D.regs.length a1'):=HRA3.out.cell (i:=1) dE;have a_2:W3.cell? ⟨AB,2,none⟩=some (.slice a2 D.slots.length a2'):=HRA3.out.cell (i:=2) dE;have a_3:W3.cell? ⟨AB,3,none⟩=some (.slice a3 D.list.length a3'):=HRA3.out.cell (i:=3) dE;have b_0:W3.cell? ⟨BB,0,none⟩=some (.slice b0 D.sign.length b0'):=HRW3.out.cell (i:=0) dE;have b_1:W3.cell? ⟨BB,1,none⟩=some (.slice b1 D.regs.length b1'):=HRW3.out.cell (i:=1) dE;have b_2:W3.cell? ⟨BB,2,none⟩=some (.slice b2 D.slots.length b2'):=HRW3.out.cell (i:=2) dE;have b_3:W3.cell? ⟨BB,3,none⟩=some (.slice b3 D.list.length b3'):=HRW3.out.cell (i:=3) dE;have HW3:Hid (∀v,Below W3.heap.size W3 v->(v.cell? ⟨TB,0,none⟩=some (.slice t0 c.sign.length t0')/\v.cell? ⟨TB,1,none⟩=some (.slice t1 c.regs.length t1')/\v.cell? ⟨TB,2,none⟩=some (.slice t2 c.slots.length t2')/\v.cell? ⟨TB,3,none⟩=some (.slice t3 c.list.length t3'))/\(v.cell? ⟨X,0,none⟩=some (.slice c0 c.sign.length c0')/\v.cell? ⟨X,1,none⟩=some (.slice c1 c.regs.length c1')/\v.cell? ⟨X,2,none⟩=some (.slice c2 c.slots.length c2')/\v.cell? ⟨X,3,none⟩=some (.slice c3 c.list.length c3'))/\BP v (.slice t0 c.sign.length t0') (.slice t1 c.regs.length t1') (.slice t2 c.slots.length t2') (.slice t3 c.list.length t3') c/\BP v (.slice c0 c.sign.length c0') (.slice c1 c.regs.length c1') (.slice c2 c.slots.length c2') (.slice c3 c.list.length c3') c):=fun v hb=>by
  have q1:Below W1.heap.size W1 v:=bel (bel HB12.out HB23.out) hb;have q0:Below W0.heap.size W0 v:=bel (bel HB02.out HB23.out) hb;have h1:=HRW1.out.of_block (q1.block _ HRW1.out.lt);have h0:=HRW0.out.of_block (q0.block _ HRW0.out.lt);exact⟨⟨h1.cell (i:=0) dE,h1.cell (i:=1) dE,h1.cell (i:=2) dE,h1.cell (i:=3) dE⟩,⟨h0.cell (i:=0) dE,h0.cell (i:=1) dE,h0.cell (i:=2) dE,h0.cell (i:=3) dE⟩,HCT1.out.below q1,HV.out.below (bel HB0.out q0)⟩
 have HB03:Hid (Below w.heap.size w W3):=bel HB0.out (bel HB02.out HB23.out);clear hW3 hBB HCB HB3 HKW3;have KE1:=A2 (KE.out D HKD.out W3 _ _ _ _ _ _ _ _ HCA3.out HCB3.out);go_wp2_with(first
  |(go_at_call 8;(with_reducible refine(KE1.out).mono ?_);rintro e w4 ⟨rfl,hb4⟩;obtain⟨⟨g0,g1,g2,g3⟩,⟨l0,l1,l2,l3⟩,hct,hcc⟩:=HW3.out w4 hb4;have HB4:=A2 hb4;have KE2:=A2 (KE.out c HK.out w4 _ _ _ _ _ _ _ _ hct hcc);clear hb4 hct hcc)
  |(go_at_call 8;(with_reducible refine(KE2.out).mono ?_);rintro e w5 ⟨rfl,hb5⟩;have HB5:=A2 hb5;clear hb5)
  |(go_at_call 9;(with_reducible refine(KS.out _).mono ?_);rintro e w6 ⟨rfl,hb6⟩;have HB6:=A2 hb6;clear hb6))
 go_ret;exact⟨rfl,by have h9:=bel (bel (bel HB03.out HB4.out) HB5.out) HB6.out;first|exact h9|(rw[HX.out]at h9;exact h9)⟩
theorem Fw(v0 v1 v2 v3:Value)(c:Cd)(hk:Ba c)(hz:Pm c)(w:World)(hv:BP w v0 v1 v2 v3 c):Calls prog 3 #[.agg #[v0,v1,v2,v3]] w fun e w'=>e=.returned (.bool true)/\Below w.heap.size w w':=by
 by_cases hc:(Ah c).1=0
 ·exact G3 v0 v1 v2 v3 c (pruneC c) 0 hk hz (Lr hk) w hv (fun v x0 x1 x2 x3 h=>(Er x0 x1 x2 x3 c hk v h hc).mono fun e w' ⟨u0,u1,u2,u3,h1,h2,_,h4⟩=>⟨u0,u1,u2,u3,h1,h2,h4⟩) (fun v x0 x1 x2 x3 h=>Gn x0 x1 x2 x3 c hk v h hc)
 ·have hok:Ba ⟨[],[],[],[]⟩:=⟨dE,dE,dE,dE,dE,dE,dE⟩
  have hcv:∀v,BP v (.slice none 0 0) (.slice none 0 0) (.slice none 0 0) (.slice none 0 0) ⟨[],[],[],[]⟩:=fun v=>⟨⟨none,0,rfl,.inl rfl⟩,⟨none,0,rfl,.inl rfl⟩,⟨none,0,rfl,.inl rfl⟩,⟨none,0,rfl,.inl rfl⟩⟩
  exact G3 v0 v1 v2 v3 c ⟨[],[],[],[]⟩ 160 hk hz hok w hv (fun v x0 x1 x2 x3 h=>(GC x0 x1 x2 x3 c hk v h hc).mono fun e w' h9=>⟨_,_,_,_,h9.1,hcv w',h9.2⟩) (fun v x0 x1 x2 x3 h=>(Hh x0 x1 x2 x3 c hk v h hc).mono fun e w' h9=>⟨_,_,_,_,h9.1,hcv w',h9.2⟩)
end Go.Proofs.Ytnbccaicijcklaa
