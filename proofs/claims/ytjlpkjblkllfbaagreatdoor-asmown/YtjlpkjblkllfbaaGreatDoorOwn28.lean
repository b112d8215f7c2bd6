import Derived.Test.YtjlpkjblkllfbaaGreatDoorOwn27
import Derived.Test.YtjlpkjblkllfbaaGreatDoorOwn26
import Derived.Test.YtjlpkjblkllfbaaGreatDoorOwn22
import Derived.Test.YtjlpkjblkllfbaaGreatDoorOwn23
import Derived.Test.YtjlpkjblkllfbaaGreatDoorOwn16
import Derived.Test.YtjlpkjblkllfbaaGreatDoorOwn24
import Derived.OrdersHeld
import Derived.Deep.DeepCutAuto
import Derived.Test.YtjlpkjblkllfbaaGreatDoorOwn1
namespace Go.Proofs.YtjlpkjblkllfbaaGreatDoor
open Go.RowKit Go.Proofs.Tryz
set_option linter.all false
set_option maxRecDepth 100000
set_option maxHeartbeats 16000000
theorem NT{w:World}{B:Nat}{v:Value}{ws:List Bs}(h:Jx w B v (ws.map A6))(h0:0<ws.length):∃g d:Nat,v=.slice (some ⟨g,0,none⟩) ws.length d/\ws.length<=d/\Dg w g 0 ws:=by
 unfold Jx at h;rw[List.length_map]at h;obtain⟨p,d,rfl⟩:=Ac h;obtain⟨g,rfl,h1,h2⟩:=Iv (ws:=ws) (by rw[show DY ws=Jt (ws.map A6) by simp[Jt,DY]];exact h) h0;exact⟨g,d,rfl,h1,fun i hi=>by rw[Nat.zero_add];exact h2 i hi⟩
theorem G6:∀ (s cur:Bs),∀x∈Aj cur s,x.length<=cur.length+s.length
 |[],cur,x,hx=>by
  have:x=cur:=by simpa[Aj]using hx
  rw[this];simp
 |b::t,cur,x,hx=>by
  unfold Aj at hx;by_cases h:nb b=32
  .rw[if_pos U7]at hx;rcases List.mem_cons.1 hx with rfl|hx
   .simp
   .have:=G6 t [] x hx;simp only[List.length_nil,List.length_cons]at this |-;omega
  .rw[if_neg U7]at hx;have:=G6 t (cur++[b]) x hx;simp only[List.length_append,List.length_cons,List.length_nil]at this |-;omega
theorem Mg(s:Bs):(Aj [] s).length<=s.length+1:=by
 rw[Dd];have:=List.count_le_length (a:=(32:UInt8)) (l:=s);omega
theorem Ou(g cap:Nat)(ws:List Bs)(j:Nat)(hj:j<=2147483647)(hl:ws.length<=100000000)(hcap:ws.length<=cap)(hs:∀x∈ws,x.length<=100000000)(w:World)(h:Dg w g 0 ws):Calls prog 15 #[.slice (some ⟨g,0,none⟩) ws.length cap,.int .i64 (j:Int)] w fun e w'=>RJ (j:Int) ws w e w':=by
 by_cases q:ws.length<3
 .exact K6 _ cap ws j q w
 .match ws,q,hl,hcap,hs,h with
  |a::m::c::r,q,hl,hcap,hs,h=>exact LK g cap a m c r j hj hl hcap hs w h
  |[],q,_,_,_,_=>exact absurd dE q
  |[_],q,_,_,_,_=>exact absurd sM q
  |[_,_],q,_,_,_,_=>exact absurd sM q
theorem LI(g cap:Nat)(ws:List Bs)(h0:0<ws.length)(hl:ws.length<=100000000)(hcap:ws.length<=cap)(hs:∀x∈ws,x.length<=100000000)(w:World)(h:Dg w g 0 ws):Calls prog 17 #[.slice (some ⟨g,0,none⟩) ws.length cap] w fun e w'=>TR ws w e w':=by
 match ws,h0,hl,hcap,hs,h with
 |a::r,_,hl,hcap,hs,h=>exact LJ g cap a r hl hcap hs w h
theorem EQ.par{E DB:Nat}{w:World}{c:Cd}{u0 u1 u2 u3:Value}(h:EQ E DB w c u0 u1 u2 u3)(s:Bc)(hl:c.sign.length*32<=140737488351232)(ty:TypeId):
 ∃g q w',(Builtin.append_ #[22,22] ty #[u0,.slice (some ⟨w.heap.size,0,none⟩) 1 1]).run prog (w.alloc (.cells (AB s).toArray 41))=.ok (.slice (some ⟨g,0,none⟩) (c.sign.length+1) q) w'/\w'.rowIs DB 27 4 (f4 u0 u1 u2 u3)/\EQ E DB (w'.setCell ⟨DB,0,none⟩ (.slice (some ⟨g,0,none⟩) (c.sign.length+1) q)) ⟨c.sign++[s],c.regs,c.slots,c.list⟩ (.slice (some ⟨g,0,none⟩) (c.sign.length+1) q) u1 u2 u3/\Below E w (w'.setCell ⟨DB,0,none⟩ (.slice (some ⟨g,0,none⟩) (c.sign.length+1) q)):=by
 obtain⟨p,q,rfl⟩:=Ac h.own.sign;obtain⟨g,c',w',h1,h2,h3,h4⟩:=C6 (t:=22) (e:=41) underlying22 If rF dE h.own.sign h.sz (AB s).toArray rfl (by intro u hu;exact GV s u TE) mL oM ty;have hr:=h.row.of_block (h4 _ h.row.lt (AS h.own.sign h.row dE));have k1:=Aa h.own.regs fun b hb=>h4 b (h.own.regs.lt b hb).2 fun e=>Al h.own.regs h.own.sign dE b hb e;have k2:=Aa h.own.slots fun b hb=>h4 b (h.own.slots.lt b hb).2 fun e=>Al h.own.slots h.own.sign dE b hb e;have k3:=Aa h.own.list fun b hb=>h4 b (h.own.list.lt b hb).2 fun e=>Al h.own.list h.own.sign dE b hb e;have hp:(w'.setCell ⟨DB,0,none⟩ (.slice (some ⟨g,0,none⟩) (c.sign.length+1) c')).rowIs DB 27 4 (f4 (.slice (some ⟨g,0,none⟩) (c.sign.length+1) c') u1 u2 u3)/\AA DB w' (w'.setCell ⟨DB,0,none⟩ (.slice (some ⟨g,0,none⟩) (c.sign.length+1) c')):=by
  refine⟨(hr.set 0 _).congr fun j hj=>?_,AA.one DB 0 w' _⟩;exact Vj
 refine⟨g,c',w',h1,hr,⟨h.le,hp.1,?_,An k1 hr dE hp.2,An k2 hr dE hp.2,An k3 hr dE hp.2⟩,h2.trans (hp.2.bel E h.le)⟩;show World.ownsRow _ _ _ _ _ (c.sign++[s]).length (Bx AB (c.sign++[s]));rw[List.length_append,List.length_singleton,Bz,show Bx AB [s]=AB s by simp[Bx]];exact TC
theorem Ff{α:Type}{p:Prop}[Decidable p]{x:Option α}(h:p->x=none):(if p then x else none)=none:=by
 by_cases q:p
 .rw[if_pos q,h q]
 .rw[if_neg q]
theorem OT{c:Cd}{ws:List Bs}{p:Bc}(h:AV ws=some p):AD (0,c) ws=some (0,⟨c.sign++[p],c.regs,c.slots,c.list⟩):=by
 unfold AD;simp only;rw[if_pos trivial,h];rfl
theorem IF{st:Nat}{c:Cd}{ws:List Bs}{t:Ty}(hs:st<=1)(h0:st=0->AV ws=none)(h:Bi (c.regs.length:Int) ws=some t):AD (st,c) ws=some (1,⟨c.sign,c.regs++[t],c.slots,c.list⟩):=by
 unfold AD;simp only;rw[Ff h0,if_pos hs,h];rfl
theorem F5{st:Nat}{c:Cd}{ws:List Bs}{t:Sl}(hs:st<=2)(h0:st=0->AV ws=none)(h1:st<=1->Bi (c.regs.length:Int) ws=none)(h:AQ (c.slots.length:Int) ws=some t):AD (st,c) ws=some (2,⟨c.sign,c.regs,c.slots++[t],c.list⟩):=by
 unfold AD;simp only;rw[Ff h0,Ff h1,if_pos hs,h];rfl
theorem Ev{st:Nat}{c:Cd}{ws:List Bs}{t:Ax}(h0:st=0->AV ws=none)(h1:st<=1->Bi (c.regs.length:Int) ws=none)(h2:st<=2->AQ (c.slots.length:Int) ws=none)(h:B3 ws=some t):AD (st,c) ws=some (3,⟨c.sign,c.regs,c.slots,c.list++[t]⟩):=by
 unfold AD;simp only;rw[Ff h0,Ff h1,Ff h2,h];rfl
theorem DJ{st:Nat}{c:Cd}{ws:List Bs}(h0:st=0->AV ws=none)(h1:st<=1->Bi (c.regs.length:Int) ws=none)(h2:st<=2->AQ (c.slots.length:Int) ws=none)(h:B3 ws=none):AD (st,c) ws=none:=by
 unfold AD;simp only;rw[Ff h0,Ff h1,Ff h2,h];rfl
def TS(t:Bs)(ln st:Nat)(c:Cd)(s:Bs):Prop:=F9 t ln st c s\/(s=[]/\ln≠0/\E4 t true ln c)
def TA(ln st hd:Nat)(c:Cd):Prop:=st<=3/\(st<=2->c.list=[])/\(st=3->hd+c.list.length=ln)/\hd<=4194304
theorem Jl(T:ByteArray)(w:World):Calls prog 6 #[.string T] w (TV w (BT (bs T))):=by
 have HNO:Hid (∀n,Hp BD n):=fun n=>⟨gJ _,Hp.none.sign,Hp.none.slots,Hp.none.list⟩
 obtain⟨W0,hW0⟩:∃W,w.alloc (.cells #[.slice none 0 0,.slice none 0 0,.slice none 0 0,.slice none 0 0] 27)=W:=⟨_,rfl⟩
 have hb0:Below w.heap.size w W0:=by rw[<-hW0];exact A2 _ _
 obtain⟨X,hX⟩:=gA (w.heap.size)
 have hr0:W0.rowIs X 27 4 (f4 (.slice none 0 0) (.slice none 0 0) (.slice none 0 0) (.slice none 0 0)):=by rw[<-hW0,<-hX];exact DA _ _ _ _ _ _
 have HWX:=A3 hX;have HB0:=A3 hb0;have HR0:=A3 hr0;obtain⟨r,hr⟩:=gA (BT (bs T))
 rw[hr];by_cases hbig:4194304<T.size
 .have e1:(4194304:Int)<(T.size:Int):=oM;have HP:Hid (r=(BD,2,0)):=by show _=_;rw[<-hr];unfold BT;rw[if_pos (by rw[A9];exact hbig)]
  obtain⟨x0,x1,x2,x3⟩:=c4 hr0;obtain⟨f0,f1,f2,f3⟩:=z4 hr0;clear hb0 hr0 hbig hr;go_enter func6,ntmps6;go_upto_region 1 with fail;try rw[hW0]
  try rw[hX]
  clear hW0 hX;go_wp2;refine bodyPost_ret Xc rfl ?_;rw[HP.out];refine⟨_,_,_,_,rfl,CP.nil _ _,?_,HNO.out _⟩;exact HB0.trans ((put4 HR0.out (.slice none 0 0) (.slice none 0 0) (.slice none 0 0) (.slice none 0 0)).2.bel _ (Nat.le_of_eq HWX.out))
 have HTS:Hid (T.size<=4194304):=by show _<=_;omega
 have e1:¬ (4194304:Int)<(T.size:Int):=oM;have HP:Hid (r=E5 (Bw [] (bs T)).2 (Bw [] (bs T)).1):=by show _=_;rw[<-hr];unfold BT;rw[if_neg (by rw[A9];omega)]
 have HTL:Hid ((bs T).length<=4194304):=by show _<=_;rw[A9];exact HTS.out
 obtain⟨E,hE⟩:=gA (W0.heap.size)
 have HEX:Hid (W0.heap.size=E/\X<E):=⟨hE,by rw[<-hE];exact hr0.lt⟩
 obtain⟨V1,hV1⟩:∃W,W0.alloc (.cells #[.slice none 0 0,.slice none 0 0,.slice none 0 0,.slice none 0 0] 27)=W:=⟨_,rfl⟩
 have hb1:Below E W0 V1:=by rw[<-hE,<-hV1];exact A2 _ _
 have hr1:V1.rowIs E 27 4 (f4 (.slice none 0 0) (.slice none 0 0) (.slice none 0 0) (.slice none 0 0)):=by rw[<-hV1,<-hE];exact DA _ _ _ _ _ _
 have HB1:=A3 hb1;have HCD1:Hid (EQ E E V1 BD (.slice none 0 0) (.slice none 0 0) (.slice none 0 0) (.slice none 0 0)):=⟨gF _,hr1,CP.nil _ _⟩
 have HXR:Hid (∀v,Below E W0 v->v.rowIs X 27 4 (f4 (.slice none 0 0) (.slice none 0 0) (.slice none 0 0) (.slice none 0 0))):=fun v k=>HR0.of_block (k.block _ HEX.2);have HFIN:Hid (∀v w',Below E W0 v->AA X v w'->Below w.heap.size w w'):=fun v w' k p=>(HB0.trans (k.mono Wo)).trans (p.bel _ (Nat.le_of_eq HWX.out));have HV1:=A3 hV1;have HE1:=A3 hE;clear hb0 hr0 hbig hr hb1 hr1 hV1 hE;go_enter func6,ntmps6;go_upto_region 1 with fail;try rw[hW0]
 try rw[hX]
 clear hW0 hX;go_upto_region 4 with fail;try rw[HV1.out]
 try rw[HE1.out]
 go_wp2
 go_loopw [0,6,7,8] (fun tv sv lv hv wx=>∃ (ln st hd:Nat) (c:Cd) (S:ByteArray) (y0 y1 y2 y3:Value),tv=.string S/\sv=.int .i64 (st:Int)/\lv=.int .i64 (ln:Int)/\hv=.int .i64 (hd:Int)/\Hid (S.size<=4194304/\TS (bs T) ln st c (bs S)/\TA ln st hd c/\EQ E E wx c y0 y1 y2 y3/\Below E W0 wx)) (fun tv _ _ _ _=>Sf tv)
 case atStart=>exact⟨0,0,0,BD,T,_,_,_,_,rfl,rfl,rfl,rfl,HTS.out,.inl (F9.start _),⟨dE,fun _=>rfl,fun e=>absurd e dE,dE⟩,HCD1.out,HB1.out⟩
 case round=>
  obtain⟨ln,st,hd,c,S,y0,y1,y2,y3,rfl,rfl,rfl,rfl,HJ⟩:=hrel;have HHD:Hid (TA ln st hd c):=HJ.2.2.1;have HEW:Hid (E<=wr.heap.size):=HJ.2.2.2.1.sz;obtain⟨r0,s0,rfl⟩:=Ac HJ.2.2.2.1.own.sign;obtain⟨r1,s1,rfl⟩:=Ac HJ.2.2.2.1.own.regs;obtain⟨r2,s2,rfl⟩:=Ac HJ.2.2.2.1.own.slots;obtain⟨r3,s3,rfl⟩:=Ac HJ.2.2.2.1.own.list;by_cases hex:bs S=[]/\ln≠0
  .have hsz:S.size=0:=by rw[<-A9,hex.1];rfl
   have e3:((ln:Int)==0)=false:=by rw[beq_eq_false_iff_ne];have:=hex.2;omega
   have hrt:E4 (bs T) true ln c:=by
    rcases HJ.2.1 with h|h
    .exact absurd hex.1 (h.left hex.2)
    .exact h.2.2
   have hok:Hp c ln/\ln<=(bs T).length/\r=if(AH c).1≠0 then(BD,160,CV (ln:Int) c (AH c).2)else(c,0,0):=⟨hrt.1,hrt.2.1,HP.trans hrt.2.2⟩
   have HOK:=A3 hok;have hl1:ln<=4194304:=by have:=HTL.out;omega
   have hl2:=hok.1.len;have KC:=Jd _ _ _ _ c (hok.1.cd oM) wr HJ.2.2.2.1.cdv;obtain⟨e,he⟩:=gA ((AH c).1)
   obtain⟨p,hp⟩:∃e,(AH c).2=e:=⟨_,rfl⟩
   rw[he,hp]at KC;have HKC:=A3 KC;have HEP:=A3 (And.intro he hp);have HLL:Hid (ln<=4194304/\c.list.length<=ln):=⟨hl1,oM⟩
   obtain⟨z0,z1,z2,z3⟩:=c4 HJ.out.2.2.2.1.row;clear hex hrt hok hl1 hl2 KC he hp;go_upto_region 37 with(go_at_call 18;(with_reducible refine HKC.out.mono ?_);rintro e9 w3 ⟨rfl,hb3⟩;have HB3:=A3 hb3;clear hb3)
   clear z0 z1 z2 z3;have HBZ:Hid (Below E W0 w3):=HJ.2.2.2.2.trans (HB3.mono HEW.out);have hd3:=HJ.2.2.2.1.below HB3.out;have HD3:=A3 hd3;obtain⟨z0,z1,z2,z3⟩:=c4 hd3.row;clear hd3;have hx9:=HXR.out _ (HBZ.out);obtain⟨x0,x1,x2,x3⟩:=c4 hx9;obtain⟨f0,f1,f2,f3⟩:=z4 hx9;clear hx9;by_cases q:e=0
   .subst q;have HRD:Hid (r=(c,0,0)):=by show r=_;rw[HOK.2.2,if_neg (by rw[HEP.1];exact fun h=>h rfl)]
    go_wp2;refine bodyPost_ret Xc rfl ?_;rw[HRD.out];have hp2:=(put4 (HXR.out _ HBZ.out) (.slice r0 c.sign.length s0) (.slice r1 c.regs.length s1) (.slice r2 c.slots.length s2) (.slice r3 c.list.length s3)).2;refine⟨_,_,_,_,rfl,?_,HFIN.out _ _ HBZ.out hp2,⟨by have h7:=HOK.1.len;have h8:=HLL.out;show c.sign.length+c.regs.length+c.slots.length+c.list.length<=4194304;omega,HOK.1.sign,HOK.1.slots,HOK.1.list⟩⟩;exact(HD3.own.putLow hp2 HEX.2).mono Wo
   .have e4:(e != 0)=true:=by rw[bne_iff_ne];exact q
    have HRD:Hid (r=(BD,160,CV (ln:Int) c p)):=by show r=_;rw[HOK.2.2,HEP.2,if_pos (by rw[HEP.1];exact q)]
    by_cases q1:0<=p
    .by_cases q2:p<(c.list.length:Int)
     .have hst3:st=3:=by
       have h9:=HHD.2.1;by_cases q3:st<=2
       .rw[h9 q3]at q2;simp at q2;omega
       .have:=HHD.1;omega
      have hh:=HHD.2.2.1 hst3;have w1:IntKind.i64.wrap ((hd:Int)+p)=(hd:Int)+p:=by rw[IntKind.wrap_i64];have:=HLL.out;omega
      have w2:IntKind.i64.wrap ((hd:Int)+p+1)=(hd:Int)+p+1:=by rw[IntKind.wrap_i64];have:=HLL.out;omega
      have HLA:Hid (CV (ln:Int) c p=(hd:Int)+p+1):=by
       show _=_;unfold CV;rw[if_pos (EV.2 ⟨q1,q2⟩)];omega
      clear hst3 hh q;exact WM
     .have HLA:Hid (CV (ln:Int) c p=0):=by
       show _=_;unfold CV;rw[if_neg (fun h=>q2 (EV.1 h).2)]
      clear q;exact WM
    .have HLA:Hid (CV (ln:Int) c p=0):=by
      show _=_;unfold CV;rw[if_neg (fun h=>q1 (EV.1 h).1)]
     clear q;exact WM
  .have hgo:F9 (bs T) ln st c (bs S):=by
    rcases HJ.2.1 with h|h
    .exact h
    .exact absurd ⟨h.1,h.2.1⟩ hex
   obtain⟨l1,l2⟩:=hgo.lens HTL.out;have HLN:Hid (ln<=4194304/\c.sign.length<=4194304/\c.regs.length<=4194304/\c.slots.length<=4194304/\c.list.length<=4194304):=⟨l1,l2⟩
   obtain⟨L1,hL1⟩:=gA (ln+1)
   have wl:IntKind.i64.wrap ((ln:Int)+1)=(L1:Int):=by rw[IntKind.wrap_i64];omega
   rcases Gs 10 (bs S)with⟨-,hn⟩|⟨x,y,hs,hx,-⟩
   .have HRT:Hid (r=(BD,250,(L1:Int))):=by
     show _=_;rw[HP.out,<-hL1];exact hgo.open (c':=BD) hn
    have hb10:∀k (hk:k<S.size),((S[k].toNat:Int) != 10)=true:=fun k hk=>by
     rw[bne_iff_ne];intro h9;refine hn S[k] ?_ (UInt8.toNat_inj.1 (by show S[k].toNat=10;omega));refine List.mem_of_mem_take (i:=k+1) ?_;rw[D4 S k hk];simp
    have HB10:=A3 hb10;have hz:S.size=0->ln=0:=fun h=>by
     by_cases q:ln=0
     .exact q
     .exact absurd ⟨List.eq_nil_of_length_eq_zero (by rw[A9];exact h),q⟩ hex
    clear hgo l1 l2 hn hex hb10 hL1;by_cases hS0:S.size=0
    .have e2:¬ (0:Int)<(S.size:Int):=oM;have e3:((ln:Int)==0)=true:=by rw[hz hS0];rfl
     clear hz;go_upto_region 7 with fail;clear hS0 e3;exact Xu
    .have e2:0<S.size:=oM;clear hz hS0;exact Xu
   .obtain⟨N,hN⟩:=gA (x.length)
    have hSs:S.size=N+1+y.length:=by rw[<-A9,hs,<-hN];simp;omega
    have HSS:=A3 hSs;have hat:∀k (hk:k<S.size),(bs S)[k]? =some S[k]:=fun k hk=>by
     have h9:=D4 S k hk;have h8:((bs S).take (k+1))[k]? =some S[k]:=by
      rw[h9,List.getElem?_append_right (by rw[List.length_take,A9];omega)];rw[List.length_take,A9,Nat.min_eq_left oM,Nat.sub_self];rfl
     rw[List.getElem?_take_of_lt oM]at h8;exact h8
    have HNE:Hid (∀k (hk:k<S.size),k<N->((S[k].toNat:Int) != 10)=true):=fun k hk hkN=>by
     rw[bne_iff_ne];intro h9;have h8:=hat k hk;rw[hs,List.getElem?_append_left (by rw[hN];exact hkN),gB (by rw[hN];exact hkN)]at h8;have h7:=Option.some.inj h8;exact hx _ (gD _) (by rw[h7];exact UInt8.toNat_inj.1 (by show S[k].toNat=10;omega))
    have HEQ:Hid (∀ (hk:N<S.size),((S[N].toNat:Int) != 10)=false):=fun hk=>by
     have h8:=hat N hk;rw[hs,List.getElem?_append_right oM,hN,Nat.sub_self]at h8;have h7:(10:UInt8)=S[N]:=Option.some.inj h8;rw[<-h7];rfl
    obtain⟨XB,hXB⟩:∃Z,S.extract 0 N=Z:=⟨_,rfl⟩
    obtain⟨YB,hYB⟩:∃Z,S.extract (N+1) S.size=Z:=⟨_,rfl⟩
    have hbX:bs XB=x:=by rw[<-hXB,ET,hs];simp[<-hN]
    have hbY:bs YB=y:=by
     rw[<-hYB,ET,hs];rw[show N+1=(x++[10]).length by simp[hN],show x++10::y=(x++[10])++y by simp,List.drop_left];exact List.take_of_length_le (by simp[hSs,hN])
    have hyl:YB.size=y.length:=by rw[<-A9,hbY]
    have HYB:Hid (YB.size<=4194304/\Sf (.string YB)<Sf (.string S)/\True/\bs YB=y):=⟨by have:=HJ.1;omega,by show YB.size<S.size;omega,trivial,hbY⟩
    have HXB:Hid (bs XB=x/\XB.size<=4194304):=⟨hbX,by rw[<-A9,hbX,hN];have:=HJ.1;omega⟩
    have HX10:Hid (∀b∈x,b≠10):=hx;rw[hs]at hgo;have HGO:=A3 hgo;have e2:0<S.size:=oM;have HL1:Hid (.int .i64 (L1:Int)=Value.int .i64 ((ln+1:Nat):Int)):=by show _=_;rw[hL1]
    have HL1n:Hid (ln+1=L1):=hL1;clear hex hgo l1 l2 hs hx hat hbX hbY hyl hSs hN hL1;go_wp2;go_loop [9] (fun nv=>∃k:Nat,k<=N/\nv=.int .i64 (k:Int)) (fun nv=>N-(intOf nv).toNat)
    case atStart=>exact⟨0,gJ _,rfl⟩
    case round=>
     obtain⟨k,hk,rfl⟩:=hrel;have hkS:k<S.size:=by have:=HSS.out;omega
     have i1:(k:Int)<(S.size:Int):=oM;have i2:(0:Int)<=(k:Int):=oM;have wi:IntKind.i64.wrap ((k:Int)+1)=((k+1:Nat):Int):=by rw[IntKind.wrap_i64];have:=HJ.1;omega
     by_cases hlt:k<N
     .have i3:=HNE.out k hkS hlt;clear hXB hYB;go_wp2;go_round
      case rel=>exact⟨k+1,oM,gN⟩
      case measure=>simp[intOf];omega
     .have hkN:k=N:=oM;subst hkN;have i3:=HEQ.out hkS;have i4:((k:Int)==(S.size:Int))=false:=by rw[beq_eq_false_iff_ne];omega
      have i5:(k:Int)<=(S.size:Int):=oM;obtain⟨K1,hK1⟩:=gA (k+1)
      rw[hK1]at wi hYB;have i6:(0:Int)<=(K1:Int):=oM;have i7:(K1:Int)<=(S.size:Int):=oM;clear hK1;by_cases hl0:ln=0
      .have e8:((L1:Int)==1)=true:=by rw[beq_iff_eq];have:=HL1n.out;omega
       have HL11:Hid (L1=1):=by show _=_;have:=HL1n.out;omega
       subst hl0;obtain⟨hst,hc⟩:=HGO.zero rfl;by_cases hh:x=B5
       .have e9:(XB.toList==[108,97,116,104,101,32,49])=true:=by rw[ByteArray.toList_eq,show XB.data.toList=x from HXB.1,hh];rfl
        have e10:(XB.toList != [108,97,116,104,101,32,49])=false:=by rw[bne,e9];rfl
        have HREL:Hid (TS (bs T) 1 st c (bs YB)):=by
         show _;have hg:=HGO.out;rw[hh]at hg;rw[HYB.2.2.2];by_cases hy:y=[]
         .subst hy;exact .inr ⟨rfl,dE,hg.firstEnd⟩
         .exact .inl (hg.first hy)
        have HHD2:Hid (TA 1 st hd c):=by
         show _;refine⟨HHD.1,HHD.2.1,fun e=>absurd (hst.symm.trans e) dE,HHD.2.2.2⟩
        clear hst hc hh;go_wp2;go_roundw
        case rel=>exact⟨1,st,hd,c,YB,_,_,_,_,rfl,rfl,by rw[HL11.out],rfl,HYB.1,HREL.out,HHD2.out,HJ.2.2.2.1,HJ.2.2.2.2⟩
        case measure=>exact HYB.2.1
       .have e9:(XB.toList==[108,97,116,104,101,32,49])=false:=by
         rw[ByteArray.toList_eq,beq_eq_false_iff_ne];intro h9;exact hh (by rw[<-HXB.1];exact h9)
        have e10:(XB.toList != [108,97,116,104,101,32,49])=true:=by rw[bne,e9];rfl
        have HRT:Hid (r=(BD,250,1)):=by
         show _=_;rw[HP.out];exact HGO.head (c':=BD) HX10.out hh
        clear hst hc hh;have hx9:=HXR.out _ (HJ.2.2.2.2);obtain⟨x0,x1,x2,x3⟩:=c4 hx9;obtain⟨f0,f1,f2,f3⟩:=z4 hx9;clear hx9;go_wp2;refine bodyPost_ret Xc rfl ?_;rw[HRT.out];refine⟨_,_,_,_,rfl,CP.nil _ _,?_,HNO.out _⟩;exact HFIN.out _ _ (HJ.2.2.2.2) (put4 (HXR.out _ (HJ.2.2.2.2)) (.slice none 0 0) (.slice none 0 0) (.slice none 0 0) (.slice none 0 0)).2
      .have e8:((L1:Int)==1)=false:=by rw[beq_eq_false_iff_ne];have:=HL1n.out;omega
       have HLN0:Hid (ln≠0):=hl0;have KC:=LM XB HXB.2 wr;rw[HXB.1]at KC;obtain⟨ws,hws⟩:=gA (Aj [] x)
       have hxl:x.length<=4194304:=by rw[<-HXB.1,A9];exact HXB.2
       have HWL:Hid (0<ws.length/\ws.length<=100000000/\∀z∈ws,z.length<=100000000):=by
        rw[<-hws];refine⟨by rw[Dd];omega,?_,fun z hz=>?_⟩
        .have:=Mg x;omega
        .have:=G6 x [] z hz;simp only[List.length_nil]at this;omega
       rw[hws]at KC;have HKC:=A3 KC;have HWS:Hid (Aj [] x=ws):=hws;clear hl0 hws hxl KC;go_upto_region 18 with(go_at_call 13;(with_reducible refine HKC.out.mono ?_);rintro e9 w2 ⟨v9,rfl,ho,b2⟩;obtain⟨g,d,rfl,hd2,hws2⟩:=NT ho HWL.out.1;have HW2:=A3 (And.intro hd2 (And.intro hws2 b2));clear ho hd2 hws2 b2)
       try clear i3
       try clear i4
       try clear e8
       try clear wl
       try clear hXB
       try clear hYB
       have HWW:Hid (∀v,Below w2.heap.size w2 v->Dg v g 0 ws):=fun v k9 i hi=>kc k9 (HW2.2.1 i hi);have HCP:=A3 HW2.1;obtain⟨NW,hNW⟩:=gA (ws.length)
       have K1:Hid (∀v,Dg v g 0 ws->Calls prog 14 #[.slice (some ⟨g,0,none⟩) NW d] v fun e w'=>RI ws v e w'):=fun v h9=>by rw[<-hNW];exact JZ g d ws HWL.2.2 v h9
       have K2:Hid (∀v,Dg v g 0 ws->Calls prog 15 #[.slice (some ⟨g,0,none⟩) NW d,.int .i64 (c.regs.length:Int)] v fun e w'=>RJ (c.regs.length:Int) ws v e w'):=fun v h9=>by rw[<-hNW];exact Ou g d ws _ Nz HWL.2.1 HCP.out HWL.2.2 v h9
       have K3:Hid (∀v,Dg v g 0 ws->Calls prog 16 #[.slice (some ⟨g,0,none⟩) NW d,.int .i64 (c.slots.length:Int)] v fun e w'=>RN (c.slots.length:Int) ws v e w'):=fun v h9=>by rw[<-hNW];exact LL g d ws _ Nz HWL.2.1 HCP.out HWL.2.2 v h9
       have K4:Hid (∀v,Dg v g 0 ws->Calls prog 17 #[.slice (some ⟨g,0,none⟩) NW d] v fun e w'=>TR ws v e w'):=fun v h9=>by rw[<-hNW];exact LI g d ws HWL.1 HWL.2.1 HCP.out HWL.2.2 v h9
       rw[hNW];clear hNW;have HW0:=A3 (HWW.out w2 (BY _));go_upto_region 19 with(go_at_call 14;(with_reducible refine(K1.out _ HW0.out).mono ?_);rintro e9 w3 ⟨p,bP,rfl,p1,p2,b3⟩;have HPA:=A3 (And.intro p1 p2);have HC3:=A3 b3;clear p1 p2 b3)
       obtain⟨V3,hV9⟩:∃W,w3.alloc (.cells #[.string p.name,.int .i64 p.kind,.int .i64 p.len] 41)=W:=⟨_,rfl⟩
       obtain⟨PB,hQ9⟩:∃Q,w3.heap.size=Q:=⟨_,rfl⟩
       have hb9:Below w3.heap.size w3 V3:=by rw[<-hV9];exact A2 _ _
       have hr9:V3.rowIs PB 41 3 (g3 (.string p.name) (.int .i64 p.kind) (.int .i64 p.len)):=by rw[<-hV9,<-hQ9];exact Cs _ _ _ _ _ 
       try rw[hV9]
       try rw[hQ9]
       have HB3:Hid (Below w2.heap.size w2 V3):=bel HC3.out hb9;have HPB3:=A3 hr9;clear hb9 hr9 hV9 hQ9;have HD3:=A3 (HJ.out.2.2.2.1.below (bel HW2.out.2.2 HB3.out));have HW3:=A3 (HWW.out V3 HB3.out);obtain⟨z0,z1,z2,z3⟩:=c4 HD3.out.row;go_upto_region 20 with(go_at_call 15;(with_reducible refine(K2.out _ HW3.out).mono ?_);rintro e9 w4 ⟨t,bR,rfl,p1,p2,b4⟩;have HRA:=A3 (And.intro p1 p2);have HC4:=A3 b4;clear p1 p2 b4)
       clear z0 z1 z2 z3;obtain⟨V4,hV9⟩:∃W,w4.alloc (.cells #[.int .i64 t.kind,.int .i64 t.par] 43)=W:=⟨_,rfl⟩
       obtain⟨TB,hQ9⟩:∃Q,w4.heap.size=Q:=⟨_,rfl⟩
       have hb9:Below w4.heap.size w4 V4:=by rw[<-hV9];exact A2 _ _
       have hr9:V4.rowIs TB 43 2 (g2 (.int .i64 t.kind) (.int .i64 t.par)):=by rw[<-hV9,<-hQ9];exact BJ _ _ _ _ 
       try rw[hV9]
       try rw[hQ9]
       have hb34:Below V3.heap.size V3 V4:=bel HC4.out hb9;have HB4:Hid (Below w2.heap.size w2 V4):=bel HB3.out hb34;have HPB4:=A3 (HPB3.out.of_block (hb34.block _ HPB3.out.lt));have HTB4:=A3 hr9;clear hb9 hr9 hV9 hQ9 hb34;have HD4:=A3 (HJ.out.2.2.2.1.below (bel HW2.out.2.2 HB4.out));have HW4:=A3 (HWW.out V4 HB4.out);obtain⟨z0,z1,z2,z3⟩:=c4 HD4.out.row;go_upto_region 21 with(go_at_call 16;(with_reducible refine(K3.out _ HW4.out).mono ?_);rintro e9 w5 ⟨l,bS,rfl,p1,p2,b5⟩;have HSA:=A3 (And.intro p1 p2);have HC5:=A3 b5;clear p1 p2 b5)
       clear z0 z1 z2 z3;obtain⟨V5,hV9⟩:∃W,w5.alloc (.cells #[.int .i64 l.ty.kind,.int .i64 l.ty.par,.bool l.keep,.int .u32 l.bits,.int .i64 l.int_] 59)=W:=⟨_,rfl⟩
       obtain⟨LB,hQ9⟩:∃Q,w5.heap.size=Q:=⟨_,rfl⟩
       have hb9:Below w5.heap.size w5 V5:=by rw[<-hV9];exact A2 _ _
       have hr9:V5.rowIs LB 59 5 (g5 (.int .i64 l.ty.kind) (.int .i64 l.ty.par) (.bool l.keep) (.int .u32 l.bits) (.int .i64 l.int_)):=by rw[<-hV9,<-hQ9];exact CG _ _ _ _ _ _ _ 
       try rw[hV9]
       try rw[hQ9]
       have hb45:Below V4.heap.size V4 V5:=bel HC5.out hb9;have HB5:Hid (Below w2.heap.size w2 V5):=bel HB4.out hb45;have HPB5:=A3 (HPB4.out.of_block (hb45.block _ HPB4.out.lt));have HTB5:=A3 (HTB4.out.of_block (hb45.block _ HTB4.out.lt));have HLB5:=A3 hr9;clear hb9 hr9 hV9 hQ9 hb45;have HW5:=A3 (HWW.out V5 HB5.out);go_upto_region 23 with(go_at_call 17;(with_reducible refine(K4.out _ HW5.out).mono ?_);rintro e9 w6 ⟨i,bI,rfl,p1,p2,b6⟩;have HIA:=A3 (And.intro p1 p2);have HC6:=A3 b6;clear p1 p2 b6)
       obtain⟨V6,hV9⟩:∃W,w6.alloc (.cells #[.int .i64 i.op,.int .i64 i.d,.int .i64 i.a,.int .i64 i.b,.int .i64 i.c,.int .i64 i.n,.int .u32 i.bits] 39)=W:=⟨_,rfl⟩
       obtain⟨IB,hQ9⟩:∃Q,w6.heap.size=Q:=⟨_,rfl⟩
       have hb9:Below w6.heap.size w6 V6:=by rw[<-hV9];exact A2 _ _
       have hr9:V6.rowIs IB 39 7 (g7 (.int .i64 i.op) (.int .i64 i.d) (.int .i64 i.a) (.int .i64 i.b) (.int .i64 i.c) (.int .i64 i.n) (.int .u32 i.bits)):=by rw[<-hV9,<-hQ9];exact J9 _ _ _ _ _ _ _ _ _ 
       try rw[hV9]
       try rw[hQ9]
       have hb56:Below V5.heap.size V5 V6:=bel HC6.out hb9;have HB6:Hid (Below wr.heap.size wr V6):=bel HW2.2.2 (bel HB5.out hb56);have HPB:=A3 (HPB5.of_block (hb56.block _ HPB5.lt));have HTB:=A3 (HTB5.of_block (hb56.block _ HTB5.lt));have HLB:=A3 (HLB5.of_block (hb56.block _ HLB5.lt));have HIB:=A3 hr9;have HD6:=A3 (HJ.2.2.2.1.below HB6.out);clear hb9 hr9 hV9 hQ9 hb56;have wm:IntKind.i64.wrap ((L1:Int)-1)=(ln:Int):=by rw[IntKind.wrap_i64];have:=HL1n.out;have:=HLN.out;omega
       have HGO2:=HGO
       replace HX10:=HX10
       rcases(show st=0\/st=1\/st=2\/st=3 by have:=HHD.1;omega)with hst|hst|hst|hst
       .skip
        subst hst;cases bP with
        |true=>
         have gP:=HPA.1 rfl;obtain⟨g9,q9,w9,hrun,hrow,hcd,hbl⟩:=HD6.par p Nz 22;have HRUN:Hid ((Builtin.append_ #[22,22] 22 #[_,.slice (some ⟨V6.heap.size,0,none⟩) 1 1]).run prog (V6.alloc (.cells #[.string p.name,.int .i64 p.kind,.int .i64 p.len] 41))=.ok (.slice (some ⟨g9,0,none⟩) (c.sign.length+1) q9) w9):=hrun;have hcd9:EQ _ E (w9.setCell ⟨E,0,none⟩ (.slice (some ⟨g9,0,none⟩) (c.sign.length+1) q9)) _ _ _ _ _:=hcd;have hbl9:Below _ _ (w9.setCell ⟨E,0,none⟩ (.slice (some ⟨g9,0,none⟩) (c.sign.length+1) q9)):=hbl;obtain⟨z0,z1,z2,z3⟩:=c4 HD6.row;obtain⟨a0,a1,a2,a3⟩:=c4 hrow;obtain⟨b0,b1,b2,b3⟩:=z4 hrow;have hbox:=HPB.out;obtain⟨u0,u1,u2⟩:=c3 hbox;have HCD9:=A3 hcd9;have HBL9:=A3 hbl9;have HSTEP:Hid (AD (0,c) ws=some (0,⟨c.sign++[p],c.regs,c.slots,c.list⟩)):=by
          show _=_;exact OT gP
         have HRELN:Hid (TS (bs T) (ln+1) 0 ⟨c.sign++[p],c.regs,c.slots,c.list⟩ (bs YB)/\TA (ln+1) 0 hd ⟨c.sign++[p],c.regs,c.slots,c.list⟩):=(by
          refine⟨?_,⟨dE,fun _=>HHD.2.1 dE,fun e=>absurd e dE,HHD.2.2.2⟩⟩;have hg:=HGO.out;rw[HYB.2.2.2] ;by_cases hy:y=[]
          .subst hy;exact .inr ⟨rfl,oM,hg.last HX10.out HLN0.out Wq⟩
          .exact .inl (hg.next HX10.out HLN0.out Wq hy))
         clear hrun hrow hcd hbl hcd9 hbl9 hbox;go_wp2_with(at_builtin;refine Bl rF _ _ _ rF _ _ _ rF rF HRUN.out ?_);go_roundw
         case rel=>exact⟨ln+1,0,hd,⟨c.sign++[p],c.regs,c.slots,c.list⟩,YB,(.slice (some ⟨g9,0,none⟩) (c.sign.length+1) q9),(.slice r1 c.regs.length s1),(.slice r2 c.slots.length s2),(.slice r3 c.list.length s3),rfl,rfl,HL1.out,rfl,HYB.1,HRELN.1,HRELN.2,HCD9.out,(HJ.2.2.2.2.trans (HB6.mono HEW.out)).trans HBL9.out⟩
         case measure=>exact HYB.2.1
        |false=>
         have gP:=HPA.2 rfl;cases bR with
         |true=>
          have gR:=HRA.1 rfl;obtain⟨g9,q9,w9,hrun,hrow,hcd,hbl⟩:=HD6.reg t Nz 23;have HRUN:Hid ((Builtin.append_ #[23,23] 23 #[_,.slice (some ⟨V6.heap.size,0,none⟩) 1 1]).run prog (V6.alloc (.cells #[.int .i64 t.kind,.int .i64 t.par] 43))=.ok (.slice (some ⟨g9,0,none⟩) (c.regs.length+1) q9) w9):=hrun;have hcd9:EQ _ E (w9.setCell ⟨E,1,none⟩ (.slice (some ⟨g9,0,none⟩) (c.regs.length+1) q9)) _ _ _ _ _:=hcd;have hbl9:Below _ _ (w9.setCell ⟨E,1,none⟩ (.slice (some ⟨g9,0,none⟩) (c.regs.length+1) q9)):=hbl;obtain⟨z0,z1,z2,z3⟩:=c4 HD6.row;obtain⟨a0,a1,a2,a3⟩:=c4 hrow;obtain⟨b0,b1,b2,b3⟩:=z4 hrow;have hbox:=HTB.out;obtain⟨u0,u1⟩:=c2 hbox;have HCD9:=A3 hcd9;have HBL9:=A3 hbl9;have HSTEP:Hid (AD (0,c) ws=some (1,⟨c.sign,c.regs++[t],c.slots,c.list⟩)):=by
           show _=_;exact IF dE (fun _=>gP) gR
          exact Xv
         |false=>
          have gR:=HRA.2 rfl;cases bS with
          |true=>
           have gS:=HSA.1 rfl;obtain⟨g9,q9,w9,hrun,hrow,hcd,hbl⟩:=HD6.slot l Nz 24;have HRUN:Hid ((Builtin.append_ #[24,24] 24 #[_,.slice (some ⟨V6.heap.size,0,none⟩) 1 1]).run prog (V6.alloc (.cells #[.int .i64 l.ty.kind,.int .i64 l.ty.par,.bool l.keep,.int .u32 l.bits,.int .i64 l.int_] 59))=.ok (.slice (some ⟨g9,0,none⟩) (c.slots.length+1) q9) w9):=hrun;have hcd9:EQ _ E (w9.setCell ⟨E,2,none⟩ (.slice (some ⟨g9,0,none⟩) (c.slots.length+1) q9)) _ _ _ _ _:=hcd;have hbl9:Below _ _ (w9.setCell ⟨E,2,none⟩ (.slice (some ⟨g9,0,none⟩) (c.slots.length+1) q9)):=hbl;obtain⟨z0,z1,z2,z3⟩:=c4 HD6.row;obtain⟨a0,a1,a2,a3⟩:=c4 hrow;obtain⟨b0,b1,b2,b3⟩:=z4 hrow;have hbox:=HLB.out;obtain⟨u0,u1,u2,u3,u4⟩:=c5 hbox;have HCD9:=A3 hcd9;have HBL9:=A3 hbl9;have HSTEP:Hid (AD (0,c) ws=some (2,⟨c.sign,c.regs,c.slots++[l],c.list⟩)):=by
            show _=_;exact F5 dE (fun _=>gP) (fun _=>gR) gS
           exact WJ
          |false=>
           have gS:=HSA.2 rfl;cases bI with
           |true=>
            have gI:=HIA.1 rfl;obtain⟨g9,q9,w9,hrun,hrow,hcd,hbl⟩:=HD6.ins i Nz 25;have HRUN:Hid ((Builtin.append_ #[25,25] 25 #[_,.slice (some ⟨V6.heap.size,0,none⟩) 1 1]).run prog (V6.alloc (.cells #[.int .i64 i.op,.int .i64 i.d,.int .i64 i.a,.int .i64 i.b,.int .i64 i.c,.int .i64 i.n,.int .u32 i.bits] 39))=.ok (.slice (some ⟨g9,0,none⟩) (c.list.length+1) q9) w9):=hrun;have hcd9:EQ _ E (w9.setCell ⟨E,3,none⟩ (.slice (some ⟨g9,0,none⟩) (c.list.length+1) q9)) _ _ _ _ _:=hcd;have hbl9:Below _ _ (w9.setCell ⟨E,3,none⟩ (.slice (some ⟨g9,0,none⟩) (c.list.length+1) q9)):=hbl;obtain⟨z0,z1,z2,z3⟩:=c4 HD6.row;obtain⟨a0,a1,a2,a3⟩:=c4 hrow;obtain⟨b0,b1,b2,b3⟩:=z4 hrow;have hbox:=HIB.out;obtain⟨u0,u1,u2,u3,u4,u5,u6⟩:=c7 hbox;have HCD9:=A3 hcd9;have HBL9:=A3 hbl9;have HSTEP:Hid (AD (0,c) ws=some (3,⟨c.sign,c.regs,c.slots,c.list++[i]⟩)):=by
             show _=_;exact Ev (fun _=>gP) (fun _=>gR) (fun _=>gS) gI
            exact WH
           |false=>
            have gI:=HIA.2 rfl;have HSTEP:Hid (AD (0,c) ws=none):=DJ (fun _=>gP) (fun _=>gR) (fun _=>gS) gI;exact VR
       .skip
        subst hst;cases bR with
        |true=>
         have gR:=HRA.1 rfl;obtain⟨g9,q9,w9,hrun,hrow,hcd,hbl⟩:=HD6.reg t Nz 23;have HRUN:Hid ((Builtin.append_ #[23,23] 23 #[_,.slice (some ⟨V6.heap.size,0,none⟩) 1 1]).run prog (V6.alloc (.cells #[.int .i64 t.kind,.int .i64 t.par] 43))=.ok (.slice (some ⟨g9,0,none⟩) (c.regs.length+1) q9) w9):=hrun;have hcd9:EQ _ E (w9.setCell ⟨E,1,none⟩ (.slice (some ⟨g9,0,none⟩) (c.regs.length+1) q9)) _ _ _ _ _:=hcd;have hbl9:Below _ _ (w9.setCell ⟨E,1,none⟩ (.slice (some ⟨g9,0,none⟩) (c.regs.length+1) q9)):=hbl;obtain⟨z0,z1,z2,z3⟩:=c4 HD6.row;obtain⟨a0,a1,a2,a3⟩:=c4 hrow;obtain⟨b0,b1,b2,b3⟩:=z4 hrow;have hbox:=HTB.out;obtain⟨u0,u1⟩:=c2 hbox;have HCD9:=A3 hcd9;have HBL9:=A3 hbl9;have HSTEP:Hid (AD (1,c) ws=some (1,⟨c.sign,c.regs++[t],c.slots,c.list⟩)):=by
          show _=_;exact IF dE (fun e=>absurd e dE) gR
         exact Xv
        |false=>
         have gR:=HRA.2 rfl;cases bS with
         |true=>
          have gS:=HSA.1 rfl;obtain⟨g9,q9,w9,hrun,hrow,hcd,hbl⟩:=HD6.slot l Nz 24;have HRUN:Hid ((Builtin.append_ #[24,24] 24 #[_,.slice (some ⟨V6.heap.size,0,none⟩) 1 1]).run prog (V6.alloc (.cells #[.int .i64 l.ty.kind,.int .i64 l.ty.par,.bool l.keep,.int .u32 l.bits,.int .i64 l.int_] 59))=.ok (.slice (some ⟨g9,0,none⟩) (c.slots.length+1) q9) w9):=hrun;have hcd9:EQ _ E (w9.setCell ⟨E,2,none⟩ (.slice (some ⟨g9,0,none⟩) (c.slots.length+1) q9)) _ _ _ _ _:=hcd;have hbl9:Below _ _ (w9.setCell ⟨E,2,none⟩ (.slice (some ⟨g9,0,none⟩) (c.slots.length+1) q9)):=hbl;obtain⟨z0,z1,z2,z3⟩:=c4 HD6.row;obtain⟨a0,a1,a2,a3⟩:=c4 hrow;obtain⟨b0,b1,b2,b3⟩:=z4 hrow;have hbox:=HLB.out;obtain⟨u0,u1,u2,u3,u4⟩:=c5 hbox;have HCD9:=A3 hcd9;have HBL9:=A3 hbl9;have HSTEP:Hid (AD (1,c) ws=some (2,⟨c.sign,c.regs,c.slots++[l],c.list⟩)):=by
           show _=_;exact F5 dE (fun e=>absurd e dE) (fun _=>gR) gS
          exact WJ
         |false=>
          have gS:=HSA.2 rfl;cases bI with
          |true=>
           have gI:=HIA.1 rfl;obtain⟨g9,q9,w9,hrun,hrow,hcd,hbl⟩:=HD6.ins i Nz 25;have HRUN:Hid ((Builtin.append_ #[25,25] 25 #[_,.slice (some ⟨V6.heap.size,0,none⟩) 1 1]).run prog (V6.alloc (.cells #[.int .i64 i.op,.int .i64 i.d,.int .i64 i.a,.int .i64 i.b,.int .i64 i.c,.int .i64 i.n,.int .u32 i.bits] 39))=.ok (.slice (some ⟨g9,0,none⟩) (c.list.length+1) q9) w9):=hrun;have hcd9:EQ _ E (w9.setCell ⟨E,3,none⟩ (.slice (some ⟨g9,0,none⟩) (c.list.length+1) q9)) _ _ _ _ _:=hcd;have hbl9:Below _ _ (w9.setCell ⟨E,3,none⟩ (.slice (some ⟨g9,0,none⟩) (c.list.length+1) q9)):=hbl;obtain⟨z0,z1,z2,z3⟩:=c4 HD6.row;obtain⟨a0,a1,a2,a3⟩:=c4 hrow;obtain⟨b0,b1,b2,b3⟩:=z4 hrow;have hbox:=HIB.out;obtain⟨u0,u1,u2,u3,u4,u5,u6⟩:=c7 hbox;have HCD9:=A3 hcd9;have HBL9:=A3 hbl9;have HSTEP:Hid (AD (1,c) ws=some (3,⟨c.sign,c.regs,c.slots,c.list++[i]⟩)):=by
            show _=_;exact Ev (fun e=>absurd e dE) (fun _=>gR) (fun _=>gS) gI
           exact WH
          |false=>
           have gI:=HIA.2 rfl;have HSTEP:Hid (AD (1,c) ws=none):=DJ (fun e=>absurd e dE) (fun _=>gR) (fun _=>gS) gI;exact VR
       .skip
        subst hst;cases bS with
        |true=>
         have gS:=HSA.1 rfl;obtain⟨g9,q9,w9,hrun,hrow,hcd,hbl⟩:=HD6.slot l Nz 24;have HRUN:Hid ((Builtin.append_ #[24,24] 24 #[_,.slice (some ⟨V6.heap.size,0,none⟩) 1 1]).run prog (V6.alloc (.cells #[.int .i64 l.ty.kind,.int .i64 l.ty.par,.bool l.keep,.int .u32 l.bits,.int .i64 l.int_] 59))=.ok (.slice (some ⟨g9,0,none⟩) (c.slots.length+1) q9) w9):=hrun;have hcd9:EQ _ E (w9.setCell ⟨E,2,none⟩ (.slice (some ⟨g9,0,none⟩) (c.slots.length+1) q9)) _ _ _ _ _:=hcd;have hbl9:Below _ _ (w9.setCell ⟨E,2,none⟩ (.slice (some ⟨g9,0,none⟩) (c.slots.length+1) q9)):=hbl;obtain⟨z0,z1,z2,z3⟩:=c4 HD6.row;obtain⟨a0,a1,a2,a3⟩:=c4 hrow;obtain⟨b0,b1,b2,b3⟩:=z4 hrow;have hbox:=HLB.out;obtain⟨u0,u1,u2,u3,u4⟩:=c5 hbox;have HCD9:=A3 hcd9;have HBL9:=A3 hbl9;have HSTEP:Hid (AD (2,c) ws=some (2,⟨c.sign,c.regs,c.slots++[l],c.list⟩)):=by
          show _=_;exact F5 dE (fun e=>absurd e dE) (fun e=>absurd e dE) gS
         exact WJ
        |false=>
         have gS:=HSA.2 rfl;cases bI with
         |true=>
          have gI:=HIA.1 rfl;obtain⟨g9,q9,w9,hrun,hrow,hcd,hbl⟩:=HD6.ins i Nz 25;have HRUN:Hid ((Builtin.append_ #[25,25] 25 #[_,.slice (some ⟨V6.heap.size,0,none⟩) 1 1]).run prog (V6.alloc (.cells #[.int .i64 i.op,.int .i64 i.d,.int .i64 i.a,.int .i64 i.b,.int .i64 i.c,.int .i64 i.n,.int .u32 i.bits] 39))=.ok (.slice (some ⟨g9,0,none⟩) (c.list.length+1) q9) w9):=hrun;have hcd9:EQ _ E (w9.setCell ⟨E,3,none⟩ (.slice (some ⟨g9,0,none⟩) (c.list.length+1) q9)) _ _ _ _ _:=hcd;have hbl9:Below _ _ (w9.setCell ⟨E,3,none⟩ (.slice (some ⟨g9,0,none⟩) (c.list.length+1) q9)):=hbl;obtain⟨z0,z1,z2,z3⟩:=c4 HD6.row;obtain⟨a0,a1,a2,a3⟩:=c4 hrow;obtain⟨b0,b1,b2,b3⟩:=z4 hrow;have hbox:=HIB.out;obtain⟨u0,u1,u2,u3,u4,u5,u6⟩:=c7 hbox;have HCD9:=A3 hcd9;have HBL9:=A3 hbl9;have HSTEP:Hid (AD (2,c) ws=some (3,⟨c.sign,c.regs,c.slots,c.list++[i]⟩)):=by
           show _=_;exact Ev (fun e=>absurd e dE) (fun e=>absurd e dE) (fun _=>gS) gI
          exact WH
         |false=>
          have gI:=HIA.2 rfl;have HSTEP:Hid (AD (2,c) ws=none):=DJ (fun e=>absurd e dE) (fun e=>absurd e dE) (fun _=>gS) gI;exact VR
       .skip
        subst hst;cases bI with
        |true=>
         have gI:=HIA.1 rfl;obtain⟨g9,q9,w9,hrun,hrow,hcd,hbl⟩:=HD6.ins i Nz 25;have HRUN:Hid ((Builtin.append_ #[25,25] 25 #[_,.slice (some ⟨V6.heap.size,0,none⟩) 1 1]).run prog (V6.alloc (.cells #[.int .i64 i.op,.int .i64 i.d,.int .i64 i.a,.int .i64 i.b,.int .i64 i.c,.int .i64 i.n,.int .u32 i.bits] 39))=.ok (.slice (some ⟨g9,0,none⟩) (c.list.length+1) q9) w9):=hrun;have hcd9:EQ _ E (w9.setCell ⟨E,3,none⟩ (.slice (some ⟨g9,0,none⟩) (c.list.length+1) q9)) _ _ _ _ _:=hcd;have hbl9:Below _ _ (w9.setCell ⟨E,3,none⟩ (.slice (some ⟨g9,0,none⟩) (c.list.length+1) q9)):=hbl;obtain⟨z0,z1,z2,z3⟩:=c4 HD6.row;obtain⟨a0,a1,a2,a3⟩:=c4 hrow;obtain⟨b0,b1,b2,b3⟩:=z4 hrow;have hbox:=HIB.out;obtain⟨u0,u1,u2,u3,u4,u5,u6⟩:=c7 hbox;have HCD9:=A3 hcd9;have HBL9:=A3 hbl9;have HSTEP:Hid (AD (3,c) ws=some (3,⟨c.sign,c.regs,c.slots,c.list++[i]⟩)):=by
          show _=_;exact Ev (fun e=>absurd e dE) (fun e=>absurd e dE) (fun e=>absurd e dE) gI
         have HRELN:Hid (TS (bs T) (ln+1) 3 ⟨c.sign,c.regs,c.slots,c.list++[i]⟩ (bs YB)/\TA (ln+1) 3 hd ⟨c.sign,c.regs,c.slots,c.list++[i]⟩):=(by
          refine⟨?_,⟨dE,fun e=>absurd e dE,fun _=>by have:=HHD.2.2.1 rfl;simp only[List.length_append,List.length_singleton];omega,HHD.2.2.2⟩⟩;have hg:=HGO.out;rw[HYB.2.2.2] ;by_cases hy:y=[]
          .subst hy;exact .inr ⟨rfl,oM,hg.last HX10.out HLN0.out Wq⟩
          .exact .inl (hg.next HX10.out HLN0.out Wq hy))
         clear hrun hrow hcd hbl hcd9 hbl9 hbox;go_wp2_with(at_builtin;refine Bl rF _ _ _ rF _ _ _ rF rF HRUN.out ?_);go_roundw
         case rel=>exact⟨ln+1,3,hd,⟨c.sign,c.regs,c.slots,c.list++[i]⟩,YB,(.slice r0 c.sign.length s0),(.slice r1 c.regs.length s1),(.slice r2 c.slots.length s2),(.slice (some ⟨g9,0,none⟩) (c.list.length+1) q9),rfl,rfl,HL1.out,rfl,HYB.1,HRELN.1,HRELN.2,HCD9.out,(HJ.2.2.2.2.trans (HB6.mono HEW.out)).trans HBL9.out⟩
         case measure=>exact HYB.2.1
        |false=>
         have gI:=HIA.2 rfl;have HSTEP:Hid (AD (3,c) ws=none):=DJ (fun e=>absurd e dE) (fun e=>absurd e dE) (fun e=>absurd e dE) gI;exact VR
def TU(w:World)(r:Cd×Int×Int)(e:Ending)(w':World):Prop:=
 ∃p0 n0 q0 p1 n1 q1 p2 n2 q2 p3 n3 q3,e=.returned (.tuple #[.agg #[.slice p0 n0 q0,.slice p1 n1 q1,.slice p2 n2 q2,.slice p3 n3 q3],.int .i64 r.2.1,.int .i64 r.2.2])/\DO w' (.slice p0 n0 q0) (.slice p1 n1 q1) (.slice p2 n2 q2) (.slice p3 n3 q3) r.1/\Below w.heap.size w w'/\BE r.1
theorem TM{w:World}{r:Cd×Int×Int}{e:Ending}{w':World}(h:TV w r e w'):TU w r e w':=by
 obtain⟨a0,a1,a2,a3,h2,h3,h4,h5⟩:=h;obtain⟨p0,q0,rfl⟩:=Ac h3.sign;obtain⟨p1,q1,rfl⟩:=Ac h3.regs;obtain⟨p2,q2,rfl⟩:=Ac h3.slots;obtain⟨p3,q3,rfl⟩:=Ac h3.list;exact⟨p0,_,q0,p1,_,q1,p2,_,q2,p3,_,q3,h2,h3.cdv,h4,h5.cd dE⟩
theorem Kx(s:ByteArray)(hs:s.size<=140737488351232)(w:World)(hL:BL w):
 Calls prog 4 #[.string s] w fun e w'=>e=.returned (.bool true)/\Below w.heap.size w w':=by
 have HL:=A3 hL;have KS:Hid (∀v,Below w.heap.size w v->Calls prog 8 #[] v fun e w'=>e=.returned (.bool true)/\Below v.heap.size v w'):=fun v k=>M9 v (HL.below k);obtain⟨c,re,rl,hr⟩:∃c e l,BT (bs s)=(c,e,l):=⟨_,_,_,rfl⟩
 have HP0:Hid (Calls prog 5 #[.string s] w fun e w'=>∃a0 e0 a1 e1 a2 e2 a3 e3,e=.returned (.tuple #[.agg #[.slice a0 c.sign.length e0,.slice a1 c.regs.length e1,.slice a2 c.slots.length e2,.slice a3 c.list.length e3],.int .i64 re,.int .i64 rl])/\CP w.heap.size w' (.slice a0 c.sign.length e0) (.slice a1 c.regs.length e1) (.slice a2 c.slots.length e2) (.slice a3 c.list.length e3) c/\Below w.heap.size w w'/\Hp c 4194304):=by
  have h9:=Dr s w hL;rw[hr]at h9;refine h9.mono ?_;rintro e w' ⟨a0,a1,a2,a3,h2,h3,h4,h5⟩;obtain⟨p0,q0,rfl⟩:=Ac h3.sign;obtain⟨p1,q1,rfl⟩:=Ac h3.regs;obtain⟨p2,q2,rfl⟩:=Ac h3.slots;obtain⟨p3,q3,rfl⟩:=Ac h3.list;exact⟨p0,q0,p1,q1,p2,q2,p3,q3,h2,h3,h4,h5⟩
 have HP:Hid (∀v,Below w.heap.size w v->Calls prog 5 #[.string s] v (TU v (c,re,rl))):=fun v k=>by
  have h9:=Dr s v (HL.below k);rw[hr]at h9;exact h9.mono fun _ _ h=>TM h
 have HR:Hid (∀v,Calls prog 6 #[.string s] v (TU v (c,re,rl))):=fun v=>by
  have h9:=Jl s v;rw[hr]at h9;exact h9.mono fun _ _ h=>TM h
 have HE:Hid (∀ (v:World) (a0 a1 a2 a3 b0 b1 b2 b3:Value),BE c->DO v a0 a1 a2 a3 c->DO v b0 b1 b2 b3 c->Calls prog 7 #[.agg #[a0,a1,a2,a3],.agg #[b0,b1,b2,b3]] v fun e w'=>e=.returned (.bool true)/\Below v.heap.size v w'):=fun v a0 a1 a2 a3 b0 b1 b2 b3 ho hv hv2=>by
  have h9:=GX a0 a1 a2 a3 b0 b1 b2 b3 c c ho ho v hv hv2;rw[JK]at h9;exact h9
 obtain⟨EA,hEA⟩:∃E,w.heap.size=E:=⟨_,rfl⟩
 rw[hEA]at HP0;have HEA:=A3 hEA;clear hL hr hs hEA;go_enter func4,ntmps4;go_upto_region 2 with(go_at_call 5;(with_reducible refine HP0.out.mono ?_);rintro e w1 ⟨a0,e0,a1,e1,a2,e2,a3,e3,rfl,ho1,b1,hok⟩;have HO1:=A3 ho1;have HB1:=A3 b1;have HOK:=A3 hok;clear ho1 b1 hok)
 obtain⟨V,hV9⟩:=gA (w1.alloc (.cells #[.slice a0 c.sign.length e0,.slice a1 c.regs.length e1,.slice a2 c.slots.length e2,.slice a3 c.list.length e3] 27))
 obtain⟨XA,hX9⟩:∃X,w1.heap.size=X:=⟨_,rfl⟩
 have hb9:Below w1.heap.size w1 V:=by rw[<-hV9];exact A2 _ _
 have hr9:V.rowIs XA 27 4 (f4 (.slice a0 c.sign.length e0) (.slice a1 c.regs.length e1) (.slice a2 c.slots.length e2) (.slice a3 c.list.length e3)):=by rw[<-hV9,<-hX9];exact DA _ _ _ _ _ _
 have HXA:=A3 hX9;try rw[hV9]
 try rw[hX9]
 have HBV:Hid (Below EA w V):=HB1.trans (hb9.mono (by have:=HB1.size;have:=HEA.out;omega));have HRX:=A3 hr9;have HLN:Hid (c.sign.length<=4194304/\c.regs.length<=4194304/\c.slots.length<=4194304/\c.list.length<=4194304):=by have:=HOK.len;refine⟨?_,?_,?_,?_⟩<;>omega
 have HLT:Hid ((∀b,(Value.slice a0 c.sign.length e0).ownBlock=some b->EA<=b/\b<XA)/\(∀b,(Value.slice a1 c.regs.length e1).ownBlock=some b->EA<=b/\b<XA)/\(∀b,(Value.slice a2 c.slots.length e2).ownBlock=some b->EA<=b/\b<XA)/\(∀b,(Value.slice a3 c.list.length e3).ownBlock=some b->EA<=b/\b<XA)):=by
  rw[<-HXA.out];exact⟨fun b h=>HO1.sign.lt b h,fun b h=>HO1.regs.lt b h,fun b h=>HO1.slots.lt b h,fun b h=>HO1.list.lt b h⟩
 have HI0:Hid (Wr EA XA V V/\R4 EA V (.slice a0 c.sign.length e0) (.slice a1 c.regs.length e1) (.slice a2 c.slots.length e2) (.slice a3 c.list.length e3) c):=⟨Wr.refl _ _ _,⟨_,Ag HO1.sign hb9⟩,⟨_,Ag HO1.regs hb9⟩,⟨_,Ag HO1.slots hb9⟩,⟨_,Ag HO1.list hb9⟩⟩
 have HCX:Hid (∀u,Wr EA XA V u->u.rowIs XA 27 4 (f4 (.slice a0 c.sign.length e0) (.slice a1 c.regs.length e1) (.slice a2 c.slots.length e2) (.slice a3 c.list.length e3))):=fun u h=>HRX.of_block (h.up XA (gF _));clear hV9 hX9 hb9 hr9;go_upto_block 0 with fail;go_cut [6] (fun iv wx=>Hid (Wr EA XA V wx/\R4 EA wx (.slice a0 c.sign.length e0) (.slice a1 c.regs.length e1) (.slice a2 c.slots.length e2) (.slice a3 c.list.length e3) c))
 case first=>
  have hbx2:World.cell? _ ⟨XA,3,none⟩=some (.slice a3 c.list.length e3):=(HCX.out _ HI0.1).cell (i:=3) dE;go_wp2_with fail;clear hbx2
  go_loopw [6] (fun iv wr=>∃j:Nat,j<=c.list.length/\iv=.int .i64 (j:Int)/\Hid (Wr EA XA V wr/\R4 EA wr (.slice a0 c.sign.length e0) (.slice a1 c.regs.length e1) (.slice a2 c.slots.length e2) (.slice a3 c.list.length e3) c)) (fun iv _=>c.list.length-(intOf iv).toNat)
  case atStart=>exact⟨0,gJ _,rfl,HI0.out⟩
  case round=>
   obtain⟨j,hj,rfl,HJ⟩:=hrel;have hbx:wr.cell? ⟨XA,3,none⟩=some (.slice a3 c.list.length e3):=(HCX.out wr HJ.1).cell (i:=3) dE;by_cases hlt:j<c.list.length
   .obtain⟨xs,hox⟩:=HJ.2.l3;obtain⟨gg,cap,e9,hg1,hg2⟩:=hox.form oM;have hlo:=HLT.2.2.2 gg (by rw[e9];rfl);have HT:Hid (EA<=gg/\gg<XA):=hlo;simp only[Value.slice.injEq]at e9;obtain⟨e9,-,e8⟩:=e9;rw[e9]at hbx;have hcs:=GU (by rw[e9]at hox;exact hox) j hlt;have hl9:c.list.length<=4194304:=by have:=HLN.out;omega
    obtain⟨N,hN⟩:=gA (c.list.length)
    rw[hN]at hbx hlt hl9;obtain⟨⟨u0,t0⟩,o0⟩:=hcs 0 dE;obtain⟨⟨u1,t1⟩,o1⟩:=hcs 1 dE;obtain⟨⟨u2,t2⟩,o2⟩:=hcs 2 dE;obtain⟨⟨u3,t3⟩,o3⟩:=hcs 3 dE;obtain⟨⟨u4,t4⟩,o4⟩:=hcs 4 dE;obtain⟨⟨u5,t5⟩,o5⟩:=hcs 5 dE;obtain⟨⟨u6,t6⟩,o6⟩:=hcs 6 dE;rw[Nat.add_zero]at t0 o0;have i1:(0:Int)<=(j:Int):=oM;have i2:(j:Int)<(N:Int):=oM;have wi:IntKind.i64.wrap ((j:Int)+1)=((j+1:Nat):Int):=by rw[IntKind.wrap_i64];omega
    clear hox hcs hg1 hg2 hlo e8;go_wp2;go_roundw
    case rel=>exact⟨j+1,by rw[hN];omega,gN,(((((((HJ.1.set HT.out _ _).set HT.out _ _).set HT.out _ _).set HT.out _ _).set HT.out _ _).set HT.out _ _).set HT.out _ _),(((((((HJ.2.set _ _ _).set _ _ _).set _ _ _).set _ _ _).set _ _ _).set _ _ _).set _ _ _)⟩
    case measure=>rw[hN];simp[intOf];omega
   .have e1:¬ (j:Int)<(c.list.length:Int):=oM;clear hlt;go_wp2;go_meet;exact HJ.out
 case rest=>
 have HI1:Hid _:=hcut;clear hcut;rename World=>VW1;go_upto_block 2 with fail;go_cut [7] (fun iv wx=>Hid (Wr EA XA V wx/\R4 EA wx (.slice a0 c.sign.length e0) (.slice a1 c.regs.length e1) (.slice a2 c.slots.length e2) (.slice a3 c.list.length e3) c))
 case first=>
  have hbx2:World.cell? _ ⟨XA,0,none⟩=some (.slice a0 c.sign.length e0):=(HCX.out _ HI1.1).cell (i:=0) dE;go_wp2_with fail;clear hbx2
  go_loopw [7] (fun iv wr=>∃j:Nat,j<=c.sign.length/\iv=.int .i64 (j:Int)/\Hid (Wr EA XA V wr/\R4 EA wr (.slice a0 c.sign.length e0) (.slice a1 c.regs.length e1) (.slice a2 c.slots.length e2) (.slice a3 c.list.length e3) c)) (fun iv _=>c.sign.length-(intOf iv).toNat)
  case atStart=>exact⟨0,gJ _,rfl,HI1.out⟩
  case round=>
   obtain⟨j,hj,rfl,HJ⟩:=hrel;have hbx:wr.cell? ⟨XA,0,none⟩=some (.slice a0 c.sign.length e0):=(HCX.out wr HJ.1).cell (i:=0) dE;by_cases hlt:j<c.sign.length
   .obtain⟨xs,hox⟩:=HJ.2.l0;obtain⟨gg,cap,e9,hg1,hg2⟩:=hox.form oM;have hlo:=HLT.1 gg (by rw[e9];rfl);have HT:Hid (EA<=gg/\gg<XA):=hlo;simp only[Value.slice.injEq]at e9;obtain⟨e9,-,e8⟩:=e9;rw[e9]at hbx;have hcs:=GU (by rw[e9]at hox;exact hox) j hlt;have hl9:c.sign.length<=4194304:=by have:=HLN.out;omega
    obtain⟨N,hN⟩:=gA (c.sign.length)
    rw[hN]at hbx hlt hl9;obtain⟨⟨u0,t0⟩,o0⟩:=hcs 0 dE;obtain⟨⟨u1,t1⟩,o1⟩:=hcs 1 dE;obtain⟨⟨u2,t2⟩,o2⟩:=hcs 2 dE;rw[Nat.add_zero]at t0 o0;have i1:(0:Int)<=(j:Int):=oM;have i2:(j:Int)<(N:Int):=oM;have wi:IntKind.i64.wrap ((j:Int)+1)=((j+1:Nat):Int):=by rw[IntKind.wrap_i64];omega
    clear hox hcs hg1 hg2 hlo e8;go_wp2;go_roundw
    case rel=>exact⟨j+1,by rw[hN];omega,gN,(HJ.1.set HT.out _ _),(HJ.2.set _ _ _)⟩
    case measure=>rw[hN];simp[intOf];omega
   .have e1:¬ (j:Int)<(c.sign.length:Int):=oM;clear hlt;go_wp2;go_meet;exact HJ.out
 case rest=>
 have HI2:Hid _:=hcut;clear hcut;rename World=>VW2;have hbw2:Below EA w VW2:=HBV.trans HI2.1.bel;obtain⟨xs,hreg⟩:=HI2.2.l1;have hEV:EA<=VW2.heap.size:=by have h1:=HI2.1.bel.size;have h2:=HBV.size;have:=HEA.out;omega
 obtain⟨g9,q9,w9,hrun,hbl,hown,hoth⟩:=C6 (t:=23) (e:=43) underlying23 FK rF dE hreg hEV #[.int .i64 9,.int .i64 0] rfl Ny (by have:=HLN.out;unfold maxLen;omega) Nz 23;have hrx:=HCX.out _ HI2.1;have hrx9:=hrx.of_block (hoth XA hrx.lt (AS hreg hrx dE));obtain⟨NR,hNR⟩:∃N,c.regs.length=N:=⟨_,rfl⟩
 have hxs:xs.length=NR*2:=by rw[<-hNR];exact hreg.1
 rw[hNR]at hrun hown hrx hrx9;have HRUN:=A3 hrun;obtain⟨N1,hN1⟩:∃N,NR+1=N:=⟨_,rfl⟩
 rw[hN1]at HRUN hown;obtain⟨V3,hV3⟩:∃W,w9.setCell ⟨XA,1,none⟩ (.slice (some ⟨g9,0,none⟩) N1 q9)=W:=⟨_,rfl⟩
 have hp:=Qm hrx9 (.slice (some ⟨g9,0,none⟩) N1 q9);have hown3:=An hown hrx9 dE hp.2;rw[hV3]at hp hown3;have hXE:EA<=XA:=by rw[<-HXA.out];have h1:=HB1.size;have:=HEA.out;omega
 have HB3:Hid (Below EA w V3):=(hbw2.trans hbl).trans (hp.2.bel _ hXE);have HX3:=A3 hp.1;have HG3:Hid (V3.cell? ⟨g9,NR*2,none⟩=some (.int .i64 9)):=by
  have h9:=hown3.cellAt (NR*2) oM;rw[h9,List.getElem?_append_right oM,hxs,Nat.sub_self];rfl
 have HN1:=A3 hN1;have HNRL:Hid (NR<=4194304):=by show _<=_;rw[<-hNR];exact HLN.2.1
 obtain⟨z0,z1,z2,z3⟩:=c4 hrx;obtain⟨y0,y1,y2,y3⟩:=c4 hrx9;obtain⟨f0,f1,f2,f3⟩:=z4 hrx9;clear hbw2 hreg hEV hrun hbl hown hoth hrx hrx9 hxs hN1 hp hown3 hXE hNR;go_upto_region 11 with(at_builtin;refine Bl rF _ _ _ rF _ _ _ rF rF HRUN.out ?_)
 try rw[hV3]
 clear hV3 z0 z1 z2 z3 y0 y1 y2 y3 f0 f1 f2 f3;go_upto_region 12 with(go_at_call 5;(with_reducible refine(HP.out _ (by rw[HEA.out];exact HB3.out)).mono ?_);rintro e w4 ⟨p0,n0,q0,p1,n1,q1,p2,n2,q2,p3,n3,q3,rfl,hc1,b1,ho1⟩;have H4:=A3 (And.intro hc1 (And.intro b1 ho1));clear hc1 b1 ho1)
 obtain⟨V5,hV9⟩:∃V,w4.alloc (.cells #[.slice p0 n0 q0,.slice p1 n1 q1,.slice p2 n2 q2,.slice p3 n3 q3] 27)=V:=⟨_,rfl⟩
 obtain⟨X5,hX9⟩:∃X,w4.heap.size=X:=⟨_,rfl⟩
 have hb9:Below w4.heap.size w4 V5:=by rw[<-hV9];exact A2 _ _
 have hr9:V5.rowIs X5 27 4 (f4 (.slice p0 n0 q0) (.slice p1 n1 q1) (.slice p2 n2 q2) (.slice p3 n3 q3)):=by rw[<-hV9,<-hX9];exact DA _ _ _ _ _ _
 have HX5S:=A3 hX9;try rw[hV9]
 try rw[hX9]
 have hb35:Below V3.heap.size V3 V5:=bel H4.out.2.1 hb9;have HC5:=A3 (H4.out.1.below hb9);have HR5:=A3 hr9;have HB35:=A3 hb35;clear hV9 hX9 hb9 hr9 hb35;go_upto_region 13 with(go_at_call 6;(with_reducible refine(HR.out _).mono ?_);rintro e w6 ⟨r0,m0,s0,r1,m1,s1,r2,m2,s2,r3,m3,s3,rfl,hc2,b2,ho2⟩;have H6:=A3 (And.intro hc2 b2);clear hc2 b2 ho2)
 obtain⟨V7,hV9⟩:∃V,w6.alloc (.cells #[.slice r0 m0 s0,.slice r1 m1 s1,.slice r2 m2 s2,.slice r3 m3 s3] 27)=V:=⟨_,rfl⟩
 obtain⟨X7,hX9⟩:∃X,w6.heap.size=X:=⟨_,rfl⟩
 have hb9:Below w6.heap.size w6 V7:=by rw[<-hV9];exact A2 _ _
 have hr9:V7.rowIs X7 27 4 (f4 (.slice r0 m0 s0) (.slice r1 m1 s1) (.slice r2 m2 s2) (.slice r3 m3 s3)):=by rw[<-hV9,<-hX9];exact DA _ _ _ _ _ _
 have HX7S:=A3 hX9;try rw[hV9]
 try rw[hX9]
 have hb57:Below V5.heap.size V5 V7:=bel H6.2 hb9;have HC7:=A3 (HC5.below hb57);have HD7:=A3 (H6.1.below hb9);have HB37:=A3 (bel HB35.out hb57);have hr57:=HR5.of_block (hb57.block _ HR5.lt);obtain⟨x0,x1,x2,x3⟩:=c4 hr57;obtain⟨y0,y1,y2,y3⟩:=c4 hr9;have wn:IntKind.i64.wrap ((N1:Int)-1)=(NR:Int):=by rw[IntKind.wrap_i64];have:=HN1.out;have:=HNRL.out;omega
 have i0:(0:Int)<=(NR:Int):=oM;have i1:(NR:Int)<(N1:Int):=by have:=HN1.out;omega
 clear hV9 hX9 hb9 hr9 hb57 hr57;go_wp2_with(first
  |(go_at_call 7;(with_reducible refine(HE.out _ _ _ _ _ _ _ _ _ H4.out.2.2 HC7.out HD7.out).mono ?_);rintro e w8 ⟨rfl,b8⟩;have HB38:=A3 (bel HB37.out b8);have v1:w8.cell? ⟨XA,1,none⟩=some (.slice (some ⟨g9,0,none⟩) N1 q9):=kc HB38.out (HX3.out.cell (i:=1) dE);have v2:w8.cell? ⟨g9,NR*2,none⟩=some (.int .i64 9):=kc HB38.out HG3.out;clear b8)
  |(go_at_call 8;(with_reducible refine(KS.out _ (by rw[HEA.out];exact HB3.out.trans (HB38.out.mono (by have h1:=HB3.out.size;have:=HEA.out;omega)))).mono ?_);rintro e wz ⟨rfl,b9⟩;have HBZ:=A3 b9;clear b9))
 refine bodyPost_ret (by simp[results,results4,go_sem, *];try rfl) rfl ?_;refine⟨rfl,?_⟩;rw[HEA.out];have hb:Below EA w w8:=HB3.trans (HB38.mono (by have h1:=HB3.size;have:=HEA.out;omega));exact hb.trans (HBZ.mono (by have h1:=hb.size;have:=HEA.out;omega))
end Go.Proofs.YtjlpkjblkllfbaaGreatDoor
