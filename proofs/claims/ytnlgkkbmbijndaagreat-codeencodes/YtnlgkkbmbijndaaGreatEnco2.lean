import Derived.WalkKit
import Derived.WalkSpells
import Derived.Test.YtnlgkkbmbijndaaGreatEnco1
import Derived.Test.YtnlgkkbmbijndaaGreatRows
import Derived.WalkLawsBesides
namespace Go.Proofs.YtnlgkkbmbijndaaGreat
open Go.RowKit Go.Proofs.Tryz
set_option linter.all false
set_option maxRecDepth 100000
set_option maxHeartbeats 16000000
theorem GQ(a:Int)(k:Nat)(hk:k<32)(h0:0<=a)(h1:a<4294967296):bits .and .u32 a ((2^k-1:Nat):Int)=a%((2^k:Nat):Int):=by
 have hp:2^k<2^32:=Nat.pow_lt_pow_right oM hk;have hq:0<2^k:=Nat.two_pow_pos k;obtain⟨n,rfl⟩:=Int.eq_ofNat_of_zero_le h0;rw[u32_and _ _ h0 h1 oM oM,Int.toNat_natCast,Int.toNat_natCast,Nat.and_two_pow_sub_one_eq_mod];rfl
theorem OL(a:Int)(h0:0<=a)(h1:a<4294967296):bits .and .u32 a 8388607=a%8388608:=GQ a 23 oM h0 h1
theorem PC(a:Int)(h0:0<=a)(h1:a<4294967296):bits .and .u32 a 255=a%256:=GQ a 8 oM h0 h1
theorem Lz(a:Int)(h0:0<=a)(h1:a<4294967296):bits .and .u32 a 2147483648=if 2147483648<=a then 2147483648 else 0:=by
 rw[u32_and a _ h0 h1 oM oM,show(2147483648:Int).toNat=2^31 from rfl,nat_bit];split<;>omega
theorem GR(a:Int)(h0:0<=a)(h1:a<4294967296):(bits .and .u32 a 2147483648 != 0)=decide (2147483648<=a):=by
 rw[Lz a h0 h1];split<;>simp[*]
def I0(a:Int):Int:=
 if a/8388608%256=255 then(if a%8388608=0 then 4 else 5)else if a/8388608%256=0 then(if a%8388608=0 then 1 else 2)else 3
def Ix(a:Int):Bool:=decide (2139095040<a%2147483648)
theorem NO(a:Int):Ix a=true↔2139095040<a%2147483648:=by unfold Ix;simp
theorem NP(a:Int):Ix a=false↔a%2147483648<=2139095040:=by unfold Ix;simp
theorem Nt(a:Int)(h:Ix a=true)(h0:0<=a)(h1:a<4294967296):I0 a=5:=by
 rw[NO]at h;unfold I0;rw[if_pos oM,if_neg oM]
theorem Nu(a:Int)(h:Ix a=false)(h0:0<=a)(h1:a<4294967296):I0 a≠5:=by
 rw[NP]at h;unfold I0;repeat' split
 all_goals omega
def E6(a:Int):Int:=if 2147483648<=a then -1-(a-2147483648)else a
def PK(k:Int):Int:=if k<0 then 2147483648+(-1-k)else k
def Cl(a:Int):Int:=if Ix a then 2143289344 else a
def next(a:Int):Int:=if Ix a then 2143289344 else if a=2139095040 then a else PK (E6 a+1)
def mk(m:Bool)(e f:Int):Int:=if m then e*8388608+f+2147483648 else e*8388608+f
structure Ty where
 kind:Int
 par:Int
 deriving DecidableEq
structure Sl where
 ty:Ty
 keep:Bool
 bits:Int
 int_:Int
 deriving DecidableEq
structure AB where
 op:Int
 d:Int
 a:Int
 b:Int
 c:Int
 n:Int
 bits:Int
 deriving DecidableEq
structure Cd where
 sign:List Be
 regs:List Ty
 slots:List Sl
 list:List AB
structure Rw where
 d:Int
 a:Int
 b:Int
 c:Int
 n:Int
 deriving DecidableEq
def Ad(op:Int):Rw:=
 if op=1 then⟨1,0,0,0,7⟩
 else if op=2 then⟨2,0,0,0,8⟩
 else if op=3 then⟨6,5,0,0,0⟩
 else if 4<=op/\op<=10 then⟨4,5,5,0,0⟩
 else if 11<=op/\op<=14 then⟨4,5,0,0,0⟩
 else if op=15 then⟨4,5,5,5,0⟩
 else if op=16 then⟨1,1,2,0,0⟩
 else if op=17 then⟨1,2,0,0,0⟩
 else if op=18 then⟨2,1,0,0,0⟩
 else if 19<=op/\op<=20 then⟨1,3,0,0,0⟩
 else if op=21\/op=25 then⟨2,2,0,0,0⟩
 else if op=26 then⟨2,2,2,2,0⟩
 else if 22<=op/\op<=28 then⟨2,2,2,0,0⟩
 else if 29<=op/\op<=30 then⟨3,0,0,0,9⟩
 else if op=31 then⟨0,3,0,0,9⟩
 else if op=32 then⟨6,0,0,0,10⟩
 else if op=33 then⟨0,6,0,0,10⟩
 else if op=34 then⟨0,2,0,0,0⟩
 else if op=36 then⟨0,0,0,0,11⟩
 else⟨0,0,0,0,0⟩
def Ax(op:Int):Bool:=decide (1<=op)&&decide (op<=37)
def Dr(op:Int):Bool:=decide (3<=op)&&decide (op<=15)
def BF(op:Int):Bool:=(decide (29<=op)&&decide (op<=33))||Dr op
def Ao(n:Int)(k:Nat):Bool:=decide (0<=n)&&decide (n<(k:Int))
def BY(n:Int):Bool:=decide (0<=n)&&decide (n<=2147483647)
def BE(a:Int):Bool:=decide ((if Ix a then 2143289344 else a)=a)
def AA(t:Ty)(n:Nat):Bool:=if t.kind=1\/t.kind=2 then t.par==0 else if t.kind=3 then Ao t.par n else false
def DT(s:Sl):Bool:=if s.ty.kind=2 then s.bits==0&&BY s.int_ else s.int_==0&&BE s.bits
def B1(s:Sl)(n:Nat):Bool:=AA s.ty n&&DT s
def Av(l:List Ty)(n:Int):Ty:=if Ao n l.length then(l[n.toNat]?).getD ⟨0,0⟩else⟨0,0⟩
def Hd(i:AB)(r:Rw):Int:=if r.d=0 then i.a else i.d
def AG(l:List Ty)(i:AB)(r:Rw):Ty:=Av l (Hd i r)
def Dt(l:Int)(t m:Ty):Bool:=
 if l=1 then t.kind==1
 else if l=2 then t.kind==2
 else if l=3 then t.kind==3
 else if l=4 then t.kind==1||t.kind==3
 else if l=5 then decide (t=m)||(t.kind==1&&m.kind==3)
 else decide (t=m)
def Ai(rs:List Ty)(l n:Int)(m:Ty):Bool:=if l=0 then n==0 else Ao n rs.length&&Dt l (Av rs n) m
def CA(ps:List Be)(n:Int):Int:=((ps[n.toNat]?).map fun p=>p.kind).getD 0
def DB(ss:List Sl)(n:Int):Ty:=((ss[n.toNat]?).map fun s=>s.ty).getD ⟨0,0⟩
def G7(c:Cd)(n l:Int)(m:Ty):Bool:=
 if l=8 then BY n
 else if l=9 then n==0||(n==1&&CA c.sign m.par==2)
 else if l=10 then Ao n c.slots.length&&decide (DB c.slots n=m)
 else if l=11 then Ao n c.sign.length
 else n==0
def BC(c:Cd)(i:AB)(l:Int)(m:Ty):Bool:=if l=7 then i.n==0&&BE i.bits else i.bits==0&&G7 c i.n l m
def B8(c:Cd)(i:AB)(r:Rw):Bool:=
 Ai c.regs r.d i.d (AG c.regs i r)&&(Ai c.regs r.a i.a (AG c.regs i r)&&(Ai c.regs r.b i.b (AG c.regs i r)&&(Ai c.regs r.c i.c (AG c.regs i r)&&BC c i r.n (AG c.regs i r))))
structure Bk where
 loop:Bool
 par:Int
 ahead:Nat
structure Wk where
 set:List Nat
 opens:List Bk
def AI(s:Wk):Bool:=match s.opens with |b::_=>b.loop|[]=>false
def BH(s:Wk):Int:=match s.opens with |b::_=>b.par|[]=>0
def AO(c:Cd)(s:Wk)(i:AB)(r:Rw):Bool:=
 if i.op=34\/i.op=36 then !AI s&&decide (s.opens.length<64)
 else if i.op=35 then !s.opens.isEmpty&& !AI s
 else if i.op=37 then AI s
 else !AI s||(BF i.op&&decide (AG c.regs i r=⟨3,BH s⟩))
def AJ(i:AB)(r:Rw):List Int:=(if r.a=0 then [] else [i.a])++((if r.b=0 then [] else [i.b])++(if r.c=0 then [] else [i.c]))
def B5(s:Wk):Wk:=match s.opens with
 |b::r=>⟨if b.loop then s.set else s.set.take b.ahead,r⟩
 |[]=>s
def Eu(s:Wk)(i:AB):Wk:=
 if i.op=34\/i.op=36 then⟨s.set,⟨i.op==36,i.n,s.set.length⟩::s.opens⟩else if i.op=35\/i.op=37 then B5 s else s
def GN(s:Wk)(i:AB)(r:Rw):Wk:=if r.d≠0/\i.d.toNat∉s.set then⟨s.set++[i.d.toNat],s.opens⟩else s
def Fz(s:Wk)(i:AB)(r:Rw):Wk:=GN (Eu s i) i r
def FC(s:Wk)(i:AB)(r:Rw):Bool:=(AJ i r).all fun n=>decide (n.toNat∈s.set)
def Bb(c:Cd)(s:Wk)(i:AB):Bool:=Ax i.op&&(B8 c i (Ad i.op)&&(AO c s i (Ad i.op)&&FC s i (Ad i.op)))
def AE(s:Wk)(i:AB):Wk:=Fz s i (Ad i.op)
def FO(c:Cd):Wk->Nat->List AB->Int×Int
 |s,k,[]=>if s.opens.isEmpty then(0,0)else(160,k)
 |s,k,i::r=>if Bb c s i then FO c (AE s i) (k+1) r else(160,k)
def Aq(c:Cd):Bool:=c.regs.all fun t=>AA t c.sign.length
def Bi(c:Cd):Bool:=c.slots.all fun s=>B1 s c.sign.length
def BO(c:Cd):Int:=
 if AQ c.sign≠0 then AQ c.sign
 else if 16384<c.regs.length\/32768<c.list.length then 181
 else if 4096<c.slots.length then 180
 else if Aq c&&Bi c then 0 else 160
def Az(c:Cd):Int×Int:=if BO c≠0 then(BO c,-1)else FO c ⟨[],[]⟩ 0 c.list
def Pq:Nat->List Bk->Prop
 |_,[]=>True
 |n,b::r=>b.ahead<=n/\Pq b.ahead r
theorem Pq.mono:∀ {r:List Bk} {n m:Nat},Pq n r->n<=m->Pq m r
 |[],_,_,_,_=>trivial
 |b::r,n,m,h,k=>⟨gH h.1 k,h.2⟩
structure Cy(n:Nat)(s:Wk):Prop where
 nodup:s.set.Nodup
 lt:∀x∈s.set,x<n
 opens:Pq s.set.length s.opens
 nest:s.opens.length<=64
theorem Cy.start(n:Nat):Cy n ⟨[],[]⟩:=⟨List.nodup_nil,fun x h=>absurd h sM,trivial,gI _⟩
theorem Cy.leave{n:Nat}{s:Wk}(h:Cy n s):Cy n (B5 s):=by
 obtain⟨X,O⟩:=s;cases O with
 |nil=>exact h
 |cons b r=>
  obtain⟨h1,h2,⟨h3,h4⟩,h5⟩:=h;simp only[B5];simp only at h1 h2 h3 h4 h5;split
  .exact⟨h1,h2,h4.mono h3,by simp at h5 |-;omega⟩
  .refine⟨List.Sublist.nodup (List.take_sublist _ _) h1,fun x hx=>h2 x (List.mem_of_mem_take hx),?_,by simp at h5 |-;omega⟩;simp only[List.length_take];rw[Nat.min_eq_left h3];exact h4
theorem Cy.turn{n:Nat}{s:Wk}{i:AB}(h:Cy n s)(hm:i.op=34\/i.op=36->s.opens.length<64):Cy n (Eu s i):=by
 unfold Eu;split
 .rename_i e;exact⟨h.nodup,h.lt,⟨gF _,h.opens⟩,by have:=hm e;simp;omega⟩
 .split
  .exact h.leave
  .exact h
theorem Cy.add{n:Nat}{s:Wk}{i:AB}{r:Rw}(h:Cy n s)(hd:r.d≠0->i.d.toNat<n):Cy n (GN s i r):=by
 unfold GN;split
 .rename_i e;refine⟨?_,fun x hx=>?_,h.opens.mono sM,h.nest⟩
  .rw[List.nodup_append];refine⟨h.nodup,sM,fun a ha b hb=>?_⟩;simp at hb;subst hb;exact fun e'=>e.2 (e'▸ha)
  .rcases List.mem_append.1 hx with hx|hx
   .exact h.lt x hx
   .simp at hx;subst hx;exact hd e.1
 .exact h
theorem LR:∀ {n:Nat} {l:List Nat},l.Nodup->(∀x∈l,x<n)->l.length<=n:=by
 intro n;induction n with
 |zero=>intro l _ h;cases l with
  |nil=>exact gF _
  |cons a t=>exact absurd (h a sM) (Nat.not_lt_zero _)
 |succ n ih=>
  intro l hd h;have h1:=ih (l:=l.erase n) (hd.erase n) fun x hx=>by
   have h2:=h x (List.mem_of_mem_erase hx);have h3:x≠n:=fun e=>by
    subst e;exact(List.Nodup.not_mem_erase hd) hx
   omega
  have h2:l.length<=(l.erase n).length+1:=by
   rw[List.length_erase];split<;>omega
  omega
theorem Cy.len{n:Nat}{s:Wk}(h:Cy n s):s.set.length<=n:=LR h.nodup h.lt
theorem Ds{n:Int}{k:Nat}:Ao n k=true↔0<=n/\n<(k:Int):=by unfold Ao;simp
theorem Bn{rs:List Ty}{l n:Int}{m:Ty}(h:Ai rs l n m=true)(hl:l≠0):0<=n/\n<(rs.length:Int):=by
 unfold Ai at h;rw[if_neg hl]at h;simp only[Bool.and_eq_true]at h;exact Ds.1 h.1
theorem Gr{c:Cd}{i:AB}{r:Rw}(h:B8 c i r=true):Ai c.regs r.d i.d (AG c.regs i r)=true:=by
 unfold B8 at h;simp only[Bool.and_eq_true]at h;exact h.1
theorem J8{c:Cd}{i:AB}{r:Rw}(h:B8 c i r=true):Ai c.regs r.a i.a (AG c.regs i r)=true:=by
 unfold B8 at h;simp only[Bool.and_eq_true]at h;exact h.2.1
theorem J9{c:Cd}{i:AB}{r:Rw}(h:B8 c i r=true):Ai c.regs r.b i.b (AG c.regs i r)=true:=by
 unfold B8 at h;simp only[Bool.and_eq_true]at h;exact h.2.2.1
theorem Ja{c:Cd}{i:AB}{r:Rw}(h:B8 c i r=true):Ai c.regs r.c i.c (AG c.regs i r)=true:=by
 unfold B8 at h;simp only[Bool.and_eq_true]at h;exact h.2.2.2.1
theorem Df{c:Cd}{s:Wk}{i:AB}(h:Bb c s i=true):Ax i.op=true/\B8 c i (Ad i.op)=true/\AO c s i (Ad i.op)=true/\FC s i (Ad i.op)=true:=by
 unfold Bb at h;simp only[Bool.and_eq_true]at h;exact h
theorem E1{c:Cd}{s:Wk}{i:AB}{r:Rw}(h:AO c s i r=true)(e:i.op=34\/i.op=36):s.opens.length<64:=by
 unfold AO at h;rw[if_pos e]at h;simp only[Bool.and_eq_true,decide_eq_true_eq]at h;exact h.2
theorem Cy.step{c:Cd}{s:Wk}{i:AB}(h:Cy c.regs.length s)(t:Bb c s i=true):Cy c.regs.length (AE s i):=by
 obtain⟨_,h2,h3,_⟩:=Df t;refine(h.turn (E1 h3)).add fun hd=>?_;have:=Bn (Gr h2) hd;omega
theorem Kz(a:Int)(h0:0<=a)(h1:a<4294967296)(w:World):
 Calls prog 129 #[.int .u32 a] w fun e w'=>e=.returned (.tuple #[.bool (decide (2147483648<=a)),.int .i64 (a/8388608%256),.int .i64 (a%8388608)])/\w'=w:=by
 have e1:=GR a h0 h1;have e2:=PC (a/8388608) oM oM;have e3:=OL a h0 h1;go_enter func129,ntmps129;go_wp2
 go_ret3
 exact⟨rfl,rfl⟩
theorem FZ(a:Int)(h0:0<=a)(h1:a<4294967296)(w:World):
 Calls prog 127 #[.int .u32 a] w fun e w'=>e=.returned (.int .i64 (I0 a))/\w'=w:=by
 by_cases c1:a/8388608%256=255
 .by_cases c2:a%8388608=0
  .have hc:I0 a=4:=by unfold I0;rw[if_pos c1,if_pos c2]
   exact Py
  .have hc:I0 a=5:=by unfold I0;rw[if_pos c1,if_neg c2]
   exact Py
 .by_cases c2:a/8388608%256=0
  .by_cases c3:a%8388608=0
   .have hc:I0 a=1:=by unfold I0;rw[if_neg c1,if_pos c2,if_pos c3]
    exact Py
   .have hc:I0 a=2:=by unfold I0;rw[if_neg c1,if_pos c2,if_neg c3]
    exact Py
  .have hc:I0 a=3:=by unfold I0;rw[if_neg c1,if_neg c2]
   exact Py
theorem Kf(a:Int)(h0:0<=a)(h1:a<4294967296)(hn:Ix a=true)(w:World):
 Calls prog 127 #[.int .u32 a] w fun e w'=>e=.returned (.int .i64 5)/\w'=w:=by
 have:=FZ a h0 h1 w;rwa[Nt a hn h0 h1]at this
theorem Ka(a:Int)(h0:0<=a)(h1:a<4294967296)(w:World):
 Calls prog 125 #[.int .u32 a] w fun e w'=>e=.returned (.int .u32 (Cl a))/\w'=w:=by
 cases hn:Ix a
 .have hc:Cl a=a:=by unfold Cl;simp[hn]
  have h5:(I0 a==5)=false:=by have:=Nu a hn h0 h1;simpa using this
  rw[hc];clear hc hn;go_enter func125,ntmps125;go_wp2_with(go_at_call 127;refine(FZ _ h0 h1 _).mono ?_;rintro e w' ⟨rfl,rfl⟩);go_ret;exact⟨rfl,rfl⟩
 .have hc:Cl a=2143289344:=by unfold Cl;simp[hn]
  rw[hc];clear hc;go_enter func125,ntmps125;go_wp2_with(go_at_call 127;refine(Kf _ h0 h1 hn _).mono ?_;rintro e w' ⟨rfl,rfl⟩);go_ret;exact⟨rfl,rfl⟩
def Ey(t:Ty):List Value:=[.int .i64 t.kind,.int .i64 t.par]
def F8(s:Sl):List Value:=[.int .i64 s.ty.kind,.int .i64 s.ty.par,.bool s.keep,.int .u32 s.bits,.int .i64 s.int_]
def BR(i:AB):List Value:=[.int .i64 i.op,.int .i64 i.d,.int .i64 i.a,.int .i64 i.b,.int .i64 i.c,.int .i64 i.n,.int .u32 i.bits]
theorem Fa(t:Ty):(Ey t).length=2:=rfl
theorem F9(t:Sl):(F8 t).length=5:=rfl
theorem F4(t:AB):(BR t).length=7:=rfl
theorem Ek(t:Be):(Au t).length=3:=rfl
def Ci(t:Ty):Value:=.agg #[.int .i64 t.kind,.int .i64 t.par]
def C8(r:Rw):Value:=.agg #[.int .i64 r.d,.int .i64 r.a,.int .i64 r.b,.int .i64 r.c,.int .i64 r.n]
theorem kc{w w':World}(k:Below w.heap.size w w'){a:Addr}{v:Value}(h:w.cell? a=some v):w'.cell? a=some v:=(k.cell (Ae h)).trans h
theorem kf{w w':World}(k:Below w.heap.size w w'){a:Addr}{v:Value}(h:w.cell? a=some v)(f:w.frozen? a=false):w'.frozen? a=false:=(k.frozen (Ae h)).trans f
def Aj(w:World)(b o:Nat)(cs:List Value):Prop:=∀j (h:j<cs.length),w.cell? ⟨b,o+j,none⟩=some cs[j]
theorem Aj.below{w w':World}{b o:Nat}{cs:List Value}(h:Aj w b o cs)(k:Below w.heap.size w w'):Aj w' b o cs:=fun j hj=>(k.cell (Ae (h j hj))).trans (h j hj)
theorem Aj.at{w:World}{b o:Nat}{cs:List Value}(h:Aj w b o cs)(j:Nat){v:Value}(e:cs[j]? =some v):w.cell? ⟨b,o+j,none⟩=some v:=by
 obtain⟨hj,e⟩:=List.getElem?_eq_some_iff.1 e;rw[h j hj,e]
theorem Aj.of_block{w w':World}{b o:Nat}{cs:List Value}(h:Aj w b o cs)(e:w'.heap[b]? =w.heap[b]?):Aj w' b o cs:=fun j hj=>(gC e).trans (h j hj)
def B4{α:Type}(k:Nat)(f:α->List Value)(w:World)(v:Value)(l:List α):Prop:=
 ∃p c,v=.slice p l.length c/\(l=[]\/∃b o,p=some ⟨b,o,none⟩/\∀i (h:i<l.length),Aj w b (o+i*k) (f l[i]))
theorem B4.below{α:Type}{k:Nat}{f:α->List Value}{w w':World}{v:Value}{l:List α}(h:B4 k f w v l)(q:Below w.heap.size w w'):B4 k f w' v l:=by
 obtain⟨p,c,hv,h⟩:=h;exact⟨p,c,hv,h.imp id fun⟨b,o,hp,h⟩=>⟨b,o,hp,fun i hi=>(h i hi).below q⟩⟩
theorem B4.at{α:Type}{k:Nat}{f:α->List Value}{w:World}{p:Option Addr}{n c:Nat}{l:List α}(h:B4 k f w (.slice p n c) l){i:Nat}(hi:i<l.length):∃b o,p=some ⟨b,o,none⟩/\Aj w b (o+i*k) (f l[i]):=by
 obtain⟨p',c',hv,h⟩:=h;simp only[Value.slice.injEq]at hv;obtain⟨rfl,rfl,rfl⟩:=hv;rcases h with h|⟨b,o,hp,h⟩
 .rw[h]at hi;exact absurd hi (Nat.not_lt_zero _)
 .exact⟨b,o,hp,h i hi⟩
theorem B4.rd{w:World}{v:Value}{l:List Be}(h:B4 3 Au w v l):Rd w v l:=by
 obtain⟨p,c,hv,h⟩:=h;exact⟨p,c,hv,h.imp id fun⟨b,o,hp,h⟩=>⟨b,o,hp,fun i hi=>⟨(h i hi).at 0 rfl,(h i hi).at 1 rfl,(h i hi).at 2 rfl⟩⟩⟩
structure CN(w:World)(v0 v1 v2 v3:Value)(c:Cd):Prop where
 sign:B4 3 Au w v0 c.sign
 regs:B4 2 Ey w v1 c.regs
 slots:B4 5 F8 w v2 c.slots
 list:B4 7 BR w v3 c.list
theorem CN.below{w w':World}{v0 v1 v2 v3:Value}{c:Cd}(h:CN w v0 v1 v2 v3 c)(k:Below w.heap.size w w'):CN w' v0 v1 v2 v3 c:=⟨h.sign.below k,h.regs.below k,h.slots.below k,h.list.below k⟩
def Bu(w:World)(C:Nat)(v0 v1 v2 v3:Value)(c:Cd):Prop:=Aj w C 0 [v0,v1,v2,v3]/\CN w v0 v1 v2 v3 c
theorem Bu.below{w w':World}{C:Nat}{v0 v1 v2 v3:Value}{c:Cd}(h:Bu w C v0 v1 v2 v3 c)(k:Below w.heap.size w w'):Bu w' C v0 v1 v2 v3 c:=⟨h.1.below k,h.2.below k⟩
structure Bd(c:Cd):Prop where
 signL:c.sign.length<=140737488351232
 names:∀p∈c.sign,p.name.size<=140737488351232
 regsL:c.regs.length<=140737488351232
 slotsL:c.slots.length<=140737488351232
 listL:c.list.length<=140737488351232
 sbits:∀s∈c.slots,0<=s.bits/\s.bits<4294967296
 ibits:∀i∈c.list,0<=i.bits/\i.bits<4294967296
theorem C6(n:Int)(k:Nat)(w:World):Calls prog 118 #[.int .i64 n,.int .i64 k] w fun e w'=>e=.returned (.bool (Ao n k))/\w'=w:=by
 unfold Ao;by_cases h:0<=n
 all_goals
  go_enter func118,ntmps118;exact Qb
theorem ES(n:Int)(w:World):Calls prog 119 #[.int .i64 n] w fun e w'=>e=.returned (.bool (BY n))/\w'=w:=by
 unfold BY;by_cases h:0<=n
 all_goals
  go_enter func119,ntmps119;exact Qb
theorem Fr(a:Int)(h0:0<=a)(h1:a<4294967296)(w:World):Calls prog 120 #[.int .u32 a] w fun e w'=>e=.returned (.bool (BE a))/\w'=w:=by
 have hc:BE a=(Cl a==a):=by unfold BE Cl;cases Ix a<;>rw[Bool.eq_iff_iff]<;>simp
 rw[hc];have HK:Hid (∀w,Calls prog 125 #[.int .u32 a] w fun e w'=>e=.returned (.int .u32 (Cl a))/\w'=w):=Ka a h0 h1;clear hc;obtain⟨x,hx⟩:=gA (Cl a)
 rw[hx]at HK |-;clear hx;go_enter func120,ntmps120;go_wp2_with(go_at_call 125;refine(HK.out _).mono ?_;rintro e w1 ⟨rfl,rfl⟩);go_ret;exact⟨rfl,rfl⟩
theorem DS(t:Ty)(p:Option Addr)(n c:Nat)(hn:n<=140737488351232)(w:World):Calls prog 99 #[Ci t,.slice p n c] w fun e w'=>e=.returned (.bool (AA t n))/\Below w.heap.size w w':=by
 obtain⟨K,P⟩:=t;have HK:Hid (∀w,Calls prog 118 #[.int .i64 P,.int .i64 n] w fun e w'=>e=.returned (.bool (Ao P n))/\w'=w):=C6 P n;unfold AA Ci;simp only;by_cases h1:K=1
 .subst h1;rw[if_pos (Or.inl rfl)];exact QI
 .by_cases h2:K=2
  .subst h2;rw[if_pos (Or.inr rfl)];exact QI
  .rw[if_neg (fun e=>e.elim h1 h2)];have h1':(K==1)=false:=by simpa using h1
   have h2':(K==2)=false:=by simpa using h2
   by_cases h3:K=3
   .subst h3;rw[if_pos rfl];go_enter func99,ntmps99;exact RM
   .rw[if_neg h3];have h3':(K==3)=false:=by simpa using h3
    clear h1 h2 h3;exact QI
def FN(s:Sl):Value:=.agg #[.int .i64 s.ty.kind,.int .i64 s.ty.par,.bool s.keep,.int .u32 s.bits,.int .i64 s.int_]
theorem I7(s:Sl)(h0:0<=s.bits)(h1:s.bits<4294967296)(w:World):Calls prog 100 #[FN s] w fun e w'=>e=.returned (.bool (DT s))/\Below w.heap.size w w':=by
 have HK:Hid (∀w,Calls prog 120 #[.int .u32 s.bits] w fun e w'=>e=.returned (.bool (BE s.bits))/\w'=w):=Fr s.bits h0 h1;have HL:Hid (∀w,Calls prog 119 #[.int .i64 s.int_] w fun e w'=>e=.returned (.bool (BY s.int_))/\w'=w):=ES s.int_;obtain⟨⟨K,P⟩,Q,B,I⟩:=s;unfold DT FN;simp only at HK HL h0 h1 |-;obtain⟨X,hX⟩:=gA (BE B)
 obtain⟨Y,hY⟩:=gA (BY I)
 rw[hX]at HK |-;rw[hY]at HL |-;clear hX hY;by_cases h2:K=2
 .subst h2;rw[if_pos rfl];cases hb:(B==0)
  all_goals
   go_enter func100,ntmps100;go_wp2_with(go_at_call 119;refine(HL.out _).mono ?_;rintro e w1 ⟨rfl,rfl⟩);go_ret;exact⟨Ab (by simp[hb]),A5 _ _⟩
 .rw[if_neg h2];have h2':(K==2)=false:=by simpa using h2
  clear h2;cases hb:(I==0)
  all_goals
   go_enter func100,ntmps100;go_wp2_with(go_at_call 120;refine(HK.out _).mono ?_;rintro e w1 ⟨rfl,rfl⟩);go_ret;exact⟨Ab (by simp[hb]),A5 _ _⟩
theorem Nf(K P L Q:Int):decide ((⟨K,P⟩:Ty)=⟨L,Q⟩)=(K==L&&P==Q):=by
 rw[Bool.eq_iff_iff];simp
theorem Kr(l:Int)(t m:Ty)(w:World):Calls prog 121 #[.int .i64 l,Ci t,Ci m] w fun e w'=>e=.returned (.bool (Dt l t m))/\Below w.heap.size w w':=by
 obtain⟨K,P⟩:=t;obtain⟨L,Q⟩:=m;unfold Dt Ci;simp only[Nf];by_cases h1:l=1
 .subst h1;rw[if_pos rfl];go_enter func121,ntmps121;go_wp2;go_ret;exact Nm
 rw[if_neg h1];by_cases h2:l=2
 .subst h2;rw[if_pos rfl];clear h1;go_enter func121,ntmps121;go_wp2;go_ret;exact Nm
 rw[if_neg h2];by_cases h3:l=3
 .subst h3;rw[if_pos rfl];clear h1 h2;go_enter func121,ntmps121;go_wp2;go_ret;exact Nm
 rw[if_neg h3];by_cases h4:l=4
 .subst h4;rw[if_pos rfl];clear h1 h2 h3;cases hk:(K==1)
  all_goals
   go_enter func121,ntmps121;go_wp2;go_ret;exact⟨Ab (by simp[hk]),bel (A5 _ _) (A5 _ _)⟩
 rw[if_neg h4];by_cases h5:l=5
 .subst h5;rw[if_pos rfl];clear h1 h2 h3 h4;cases hk:(K==1)<;>cases hl:(K==L)<;>cases hq:(P==Q)
  all_goals
   go_enter func121,ntmps121;go_wp2;go_ret;exact⟨Ab (by simp[hk,hl,hq]),bel (A5 _ _) (A5 _ _)⟩
 rw[if_neg h5];have h1':(l==1)=false:=by simpa using h1
 have h2':(l==2)=false:=by simpa using h2
 have h3':(l==3)=false:=by simpa using h3
 have h4':(l==4)=false:=by simpa using h4
 have h5':(l==5)=false:=by simpa using h5
 clear h1 h2 h3 h4 h5;go_enter func121,ntmps121;go_wp2
 all_goals
  go_ret;exact⟨Ab (by simp[*]),bel (A5 _ _) (A5 _ _)⟩
theorem Dc{l:List Ty}{n:Int}{k:Nat}(h:n=(k:Int))(hk:k<l.length):Av l n=l[k]:=by
 subst h;unfold Av;rw[if_pos (Ds.2 ⟨oM,oM⟩),Int.toNat_natCast,gB hk];rfl
theorem Cq{n:Int}{k:Nat}(h:Ao n k=true):∃m:Nat,n=(m:Int)/\m<k:=by
 obtain⟨h0,h1⟩:=Ds.1 h;exact⟨n.toNat,oM,oM⟩
theorem Bz(C:Nat)(v0 v1 v2 v3:Value)(c:Cd)(hk:Bd c)(l n:Int)(m:Ty)(w:World)(hc:Bu w C v0 v1 v2 v3 c):
 Calls prog 103 #[.pointer (some ⟨C,0,none⟩),.int .i64 l,.int .i64 n,Ci m] w fun e w'=>e=.returned (.bool (Ai c.regs l n m))/\Below w.heap.size w w':=by
 unfold Ai;by_cases h0:l=0
 .subst h0;rw[if_pos rfl];unfold Ci;go_enter func103,ntmps103;go_wp2;go_ret;exact⟨rfl,A5 _ _⟩
 rw[if_neg h0];have h0':(l==0)=false:=by simpa using h0
 clear h0;have HB:=hk.regsL;have K1:=C6 n c.regs.length;obtain⟨hcc,hcv⟩:=hc;have c1:=hcc.at 1 rfl;rw[Nat.zero_add]at c1;have hr:=hcv.regs;obtain⟨p,q,rfl,hrr⟩:=hcv.regs;have HN:Hid (c.regs.length=c.regs.length):=rfl;obtain⟨X,hX⟩:=gA (Ao n c.regs.length)
 simp only[hX]at K1;rw[hX];have hC:=Ae c1;simp only at hC;cases X
 .clear hr hrr hcc hcv;obtain⟨N,hN⟩:=gA (c.regs.length)
  rw[hN]at K1 c1 HB;have HK:Hid (∀w,Calls prog 118 #[.int .i64 n,.int .i64 N] w fun e w'=>e=.returned (.bool false)/\w'=w):=K1;clear hN K1 hX HN;obtain⟨A,B⟩:=m;unfold Ci;go_enter func103,ntmps103;go_wp2;have hC':C≠w.heap.size:=oM;refine rG (fun v=>v.cell? ⟨C,1,none⟩=some (.slice p N q)) fun hJ=>?_;exact R5
 .obtain⟨k,hnk,hkl⟩:=Cq hX;rw[Dc hnk hkl];have hti:c.regs[k]=c.regs[k]:=rfl;obtain⟨b,o,hp,hx⟩:=hr.at hkl;subst hp;subst hnk;have x0:=hx.at 0 rfl;have x1:=hx.at 1 rfl;rw[Nat.add_zero]at x0;have hbl:=Ae x0;simp only at hbl;have K2:=Kr l c.regs[k] m;obtain⟨T,hT⟩:=gA (c.regs[k])
  rw[hT]at x0 x1 K2 |-;obtain⟨N,hN⟩:=gA (c.regs.length)
  rw[hN]at K1 c1 HB hkl;have HK:Hid (∀w,Calls prog 118 #[.int .i64 (k:Int),.int .i64 N] w fun e w'=>e=.returned (.bool true)/\w'=w):=K1;clear hN K1 hX HN hr hrr hcc hcv hx hti hT;obtain⟨A,B⟩:=m;obtain⟨D,E⟩:=T;unfold Ci at K2 |-;simp only at x0 x1 K2 |-;obtain⟨Y,hY⟩:=gA (Dt l ⟨D,E⟩ ⟨A,B⟩)
  rw[hY]at K2 |-;have HM:Hid (∀w,Calls prog 121 #[.int .i64 l,.agg #[.int .i64 D,.int .i64 E],.agg #[.int .i64 A,.int .i64 B]] w fun e w'=>e=.returned (.bool Y)/\Below w.heap.size w w'):=K2;clear K2 hY;have i1:(0:Int)<=(k:Int):=oM;have i2:(k:Int)<(N:Int):=oM;have hC':C≠w.heap.size:=oM;have hb':b≠w.heap.size:=oM;have HC:Hid (∀v,Below (w.alloc (.cells #[.int .i64 A,.int .i64 B] 62)).heap.size (w.alloc (.cells #[.int .i64 A,.int .i64 B] 62)) v->v.cell? ⟨C,1,none⟩=some (.slice (some ⟨b,o,none⟩) N q)/\v.cell? ⟨b,o+k*2,none⟩=some (.int .i64 D)/\v.cell? ⟨b,o+k*2+1,none⟩=some (.int .i64 E)/\v.cell? ⟨w.heap.size,0,none⟩=some (.int .i64 A)/\v.cell? ⟨w.heap.size,1,none⟩=some (.int .i64 B)):=
   fun v hv=>⟨kc hv (kc (A5 _ _) c1),kc hv (kc (A5 _ _) x0),kc hv (kc (A5 _ _) x1),kc hv sG,kc hv sG⟩
  go_enter func103,ntmps103;go_wp2;refine rG (fun v=>v.cell? ⟨C,1,none⟩=some (.slice (some ⟨b,o,none⟩) N q)/\v.cell? ⟨b,o+k*2,none⟩=some (.int .i64 D)/\v.cell? ⟨b,o+k*2+1,none⟩=some (.int .i64 E)/\v.cell? ⟨w.heap.size,0,none⟩=some (.int .i64 A)/\v.cell? ⟨w.heap.size,1,none⟩=some (.int .i64 B)) fun hJ=>?_;refine wpAnyH_take (i:=0) (v:=?_) A7 kR kR kR A8 (Or.inl ⟨rF,?_⟩) A9 ?_
  rotate_left 1
  ·(intro wS hSw;(try dsimp only at hSw);go_simp;try(with_reducible rfl))
  try simp only[Act.put,List.setIfInBounds_toArray,List.set_cons_zero,List.set_cons_succ]
  refine wpAnyH_take (i:=1) (v:=?_) A7 kR kR kR A8 (Or.inl ⟨rF,?_⟩) A9 ?_
  rotate_left 1
  ·(intro wS hSw;(try dsimp only at hSw);go_simp;try(with_reducible rfl))
  try simp only[Act.put,List.setIfInBounds_toArray,List.set_cons_zero,List.set_cons_succ]
  refine wpAnyH_take (i:=2) (v:=?_) A7 kR kR kR A8 (Or.inl ⟨rF,?_⟩) A9 ?_
  rotate_left 1
  ·(intro wS hSw;(try dsimp only at hSw);go_simp;try(with_reducible rfl))
  try simp only[Act.put,List.setIfInBounds_toArray,List.set_cons_zero,List.set_cons_succ]
  refine wpAnyH_take (i:=3) (v:=?_) A7 kR kR kR A8 (Or.inl ⟨rF,?_⟩) A9 ?_
  rotate_left 1
  ·(intro wS hSw;(try dsimp only at hSw);go_simp;try(with_reducible rfl))
  try simp only[Act.put,List.setIfInBounds_toArray,List.set_cons_zero,List.set_cons_succ]
  refine wpAnyH_take (i:=4) (v:=?_) A7 kR kR kR A8 (Or.inl ⟨rF,?_⟩) A9 ?_
  rotate_left 1
  ·(intro wS hSw;(try dsimp only at hSw);go_simp;try(with_reducible rfl))
  try simp only[Act.put,List.setIfInBounds_toArray,List.set_cons_zero,List.set_cons_succ]
  refine wpAnyH_take (i:=5) (v:=?_) A7 kR kR kR A8 (Or.inl ⟨rF,?_⟩) A9 ?_
  rotate_left 1
  ·(intro wS hSw;(try dsimp only at hSw);go_simp;try(with_reducible rfl))
  try simp only[Act.put,List.setIfInBounds_toArray,List.set_cons_zero,List.set_cons_succ]
  clear hJ;refine AR 6 fun K hK=>?_;go_simp;(go_at_call 118;refine(HK.out _).mono ?_;rintro e w1 ⟨rfl,rfl⟩);try(go_wp2_with fail)
  refine AX hK fun hJ=>?_;clear hK K;refine wpAnyH_take (i:=7) (v:=?_) A7 kR kR kR A8 (Or.inl ⟨rF,?_⟩) A9 ?_
  rotate_left 1
  ·(intro wS hSw;(try dsimp only at hSw);go_simp;try(with_reducible rfl))
  try simp only[Act.put,List.setIfInBounds_toArray,List.set_cons_zero,List.set_cons_succ]
  refine wpAnyH_take (i:=8) (v:=?_) A7 kR kR kR A8 (Or.inl ⟨rF,?_⟩) A9 ?_
  rotate_left 1
  ·(intro wS hSw;(try dsimp only at hSw);go_simp;try(with_reducible rfl))
  try simp only[Act.put,List.setIfInBounds_toArray,List.set_cons_zero,List.set_cons_succ]
  refine wpAnyH_take (i:=9) (v:=?_) A7 kR kR kR A8 (Or.inl ⟨rF,?_⟩) A9 ?_
  rotate_left 1
  ·(intro wS hSw;(try dsimp only at hSw);go_simp;try(with_reducible rfl))
  try simp only[Act.put,List.setIfInBounds_toArray,List.set_cons_zero,List.set_cons_succ]
  refine wpAnyH_take (i:=10) (v:=?_) A7 kR kR kR A8 (Or.inl ⟨rF,?_⟩) A9 ?_
  rotate_left 1
  ·(intro wS hSw;(try dsimp only at hSw);go_simp;try(with_reducible rfl))
  try simp only[Act.put,List.setIfInBounds_toArray,List.set_cons_zero,List.set_cons_succ]
  refine wpAnyH_take (i:=11) (v:=?_) A7 kR kR kR A8 (Or.inl ⟨rF,?_⟩) A9 ?_
  rotate_left 1
  ·(intro wS hSw;(try dsimp only at hSw);go_simp;try(with_reducible rfl))
  try simp only[Act.put,List.setIfInBounds_toArray,List.set_cons_zero,List.set_cons_succ]
  refine wpAnyH_take (i:=12) (v:=?_) A7 kR kR kR A8 (Or.inl ⟨rF,?_⟩) A9 ?_
  rotate_left 1
  ·(intro wS hSw;(try dsimp only at hSw);go_simp;try(with_reducible rfl))
  try simp only[Act.put,List.setIfInBounds_toArray,List.set_cons_zero,List.set_cons_succ]
  refine wpAnyH_take (i:=13) (v:=?_) A7 kR kR kR A8 (Or.inl ⟨rF,?_⟩) A9 ?_
  rotate_left 1
  ·(intro wS hSw;(try dsimp only at hSw);go_simp;try(with_reducible rfl))
  try simp only[Act.put,List.setIfInBounds_toArray,List.set_cons_zero,List.set_cons_succ]
  refine wpAnyH_take (i:=14) (v:=?_) A7 kR kR kR A8 (Or.inl ⟨rF,?_⟩) A9 ?_
  rotate_left 1
  ·(intro wS hSw;(try dsimp only at hSw);go_simp;try(with_reducible rfl))
  try simp only[Act.put,List.setIfInBounds_toArray,List.set_cons_zero,List.set_cons_succ]
  refine wpAnyH_take (i:=15) (v:=?_) A7 kR kR kR A8 (Or.inl ⟨rF,?_⟩) A9 ?_
  rotate_left 1
  ·(intro wS hSw;(try dsimp only at hSw);go_simp;try(with_reducible rfl))
  try simp only[Act.put,List.setIfInBounds_toArray,List.set_cons_zero,List.set_cons_succ]
  refine wpAnyH_take (i:=16) (v:=?_) A7 kR kR kR A8 (Or.inl ⟨rF,?_⟩) A9 ?_
  rotate_left 1
  ·(intro wS hSw;(try dsimp only at hSw);go_simp;try(with_reducible rfl))
  try simp only[Act.put,List.setIfInBounds_toArray,List.set_cons_zero,List.set_cons_succ]
  clear hJ;refine AR 17 fun K hK=>?_;go_simp;(go_at_call 121;refine(HM.out _).mono ?_;rintro e w1 ⟨rfl,hb1⟩;have HB1:=bel (Ag _) hb1;obtain⟨y0,y1,y2,y3,y4⟩:=HC.out w1 HB1);try(go_wp2_with fail)
  refine AX hK fun hJ=>?_;clear hK K;refine wpAnyH_take (i:=18) (v:=?_) A7 kR kR kR A8 (Or.inl ⟨rF,?_⟩) A9 ?_
  rotate_left 1
  ·(intro wS hSw;(try dsimp only at hSw);go_simp;try(with_reducible rfl))
  try simp only[Act.put,List.setIfInBounds_toArray,List.set_cons_zero,List.set_cons_succ]
  refine wpAnyH_take (i:=19) (v:=?_) A7 kR kR kR A8 (Or.inl ⟨rF,?_⟩) A9 ?_
  rotate_left 1
  ·(intro wS hSw;(try dsimp only at hSw);go_simp;try(with_reducible rfl))
  try simp only[Act.put,List.setIfInBounds_toArray,List.set_cons_zero,List.set_cons_succ]
  refine wpAnyH_done kR ?_ _;go_wp2;go_ret;exact⟨sM,bel (A5 _ _) HB1⟩
theorem MJ(w:World):Calls prog 48 #[.int .i64 1] w fun e w'=>e=.returned (.tuple #[.string ⟨#[110,45,45,45,45]⟩,.bool true])/\w'=w:=by
 exact Di
theorem MK(w:World):Calls prog 48 #[.int .i64 2] w fun e w'=>e=.returned (.tuple #[.string ⟨#[119,45,45,45,105]⟩,.bool true])/\w'=w:=by
 exact Di
theorem ML(w:World):Calls prog 48 #[.int .i64 3] w fun e w'=>e=.returned (.tuple #[.string ⟨#[97,99,45,45,45]⟩,.bool true])/\w'=w:=by
 exact Di
theorem MM(w:World):Calls prog 48 #[.int .i64 4] w fun e w'=>e=.returned (.tuple #[.string ⟨#[100,120,120,45,45]⟩,.bool true])/\w'=w:=by
 exact Di
theorem MN(w:World):Calls prog 48 #[.int .i64 5] w fun e w'=>e=.returned (.tuple #[.string ⟨#[100,120,120,45,45]⟩,.bool true])/\w'=w:=by
 exact Di
theorem MO(w:World):Calls prog 48 #[.int .i64 6] w fun e w'=>e=.returned (.tuple #[.string ⟨#[100,120,120,45,45]⟩,.bool true])/\w'=w:=by
 exact Di
theorem MP(w:World):Calls prog 48 #[.int .i64 7] w fun e w'=>e=.returned (.tuple #[.string ⟨#[100,120,120,45,45]⟩,.bool true])/\w'=w:=by
 exact Di
theorem MQ(w:World):Calls prog 48 #[.int .i64 8] w fun e w'=>e=.returned (.tuple #[.string ⟨#[100,120,120,45,45]⟩,.bool true])/\w'=w:=by
 exact Di
theorem MR(w:World):Calls prog 48 #[.int .i64 9] w fun e w'=>e=.returned (.tuple #[.string ⟨#[100,120,120,45,45]⟩,.bool true])/\w'=w:=by
 exact Di
theorem Jq(w:World):Calls prog 48 #[.int .i64 10] w fun e w'=>e=.returned (.tuple #[.string ⟨#[100,120,120,45,45]⟩,.bool true])/\w'=w:=by
 exact Di
theorem Jr(w:World):Calls prog 48 #[.int .i64 11] w fun e w'=>e=.returned (.tuple #[.string ⟨#[100,120,45,45,45]⟩,.bool true])/\w'=w:=by
 exact Di
theorem Js(w:World):Calls prog 48 #[.int .i64 12] w fun e w'=>e=.returned (.tuple #[.string ⟨#[100,120,45,45,45]⟩,.bool true])/\w'=w:=by
 exact Di

end Go.Proofs.YtnlgkkbmbijndaaGreat
