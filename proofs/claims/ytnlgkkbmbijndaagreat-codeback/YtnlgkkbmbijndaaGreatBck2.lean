import Derived.WalkKit
import Derived.WalkSpells
import Derived.Test.YtnlgkkbmbijndaaGreatBck1
import Derived.Test.YtnlgkkbmbijndaaGreatRows
import Derived.WalkLawsBesides
namespace Go.Proofs.YtnlgkkbmbijndaaGreat
open Go.RowKit Go.Proofs.Tryz
set_option linter.all false
set_option maxRecDepth 100000
set_option maxHeartbeats 16000000
theorem GJ(a:Int)(k:Nat)(hk:k<32)(h0:0<=a)(h1:a<4294967296):bits .and .u32 a ((2^k-1:Nat):Int)=a%((2^k:Nat):Int):=by
 have hp:2^k<2^32:=Nat.pow_lt_pow_right oM hk;have hq:0<2^k:=Nat.two_pow_pos k;obtain⟨n,rfl⟩:=Int.eq_ofNat_of_zero_le h0;rw[u32_and _ _ h0 h1 oM oM,Int.toNat_natCast,Int.toNat_natCast,Nat.and_two_pow_sub_one_eq_mod];rfl
theorem OE(a:Int)(h0:0<=a)(h1:a<4294967296):bits .and .u32 a 8388607=a%8388608:=GJ a 23 oM h0 h1
theorem Pw(a:Int)(h0:0<=a)(h1:a<4294967296):bits .and .u32 a 255=a%256:=GJ a 8 oM h0 h1
theorem Lo(a:Int)(h0:0<=a)(h1:a<4294967296):bits .and .u32 a 2147483648=if 2147483648<=a then 2147483648 else 0:=by
 rw[u32_and a _ h0 h1 oM oM,show(2147483648:Int).toNat=2^31 from rfl,nat_bit];split<;>omega
theorem GK(a:Int)(h0:0<=a)(h1:a<4294967296):(bits .and .u32 a 2147483648 != 0)=decide (2147483648<=a):=by
 rw[Lo a h0 h1];split<;>simp[*]
def Hr(a:Int):Int:=
 if a/8388608%256=255 then(if a%8388608=0 then 4 else 5)else if a/8388608%256=0 then(if a%8388608=0 then 1 else 2)else 3
def Il(a:Int):Bool:=decide (2139095040<a%2147483648)
theorem NI(a:Int):Il a=true↔2139095040<a%2147483648:=by unfold Il;simp
theorem NJ(a:Int):Il a=false↔a%2147483648<=2139095040:=by unfold Il;simp
theorem Np(a:Int)(h:Il a=true)(h0:0<=a)(h1:a<4294967296):Hr a=5:=by
 rw[NI]at h;unfold Hr;rw[if_pos oM,if_neg oM]
theorem Nq(a:Int)(h:Il a=false)(h0:0<=a)(h1:a<4294967296):Hr a≠5:=by
 rw[NJ]at h;unfold Hr;repeat' split
 all_goals omega
def E7(a:Int):Int:=if 2147483648<=a then -1-(a-2147483648)else a
def PG(k:Int):Int:=if k<0 then 2147483648+(-1-k)else k
def Cg(a:Int):Int:=if Il a then 2143289344 else a
def next(a:Int):Int:=if Il a then 2143289344 else if a=2139095040 then a else PG (E7 a+1)
def mk(m:Bool)(e f:Int):Int:=if m then e*8388608+f+2147483648 else e*8388608+f
structure Ty where
 kind:Int
 par:Int
 deriving DecidableEq
structure Sl where
 ty:Ty
 keep:Bool
 bits:Int
 int_:Int
 deriving DecidableEq
structure AA where
 op:Int
 d:Int
 a:Int
 b:Int
 c:Int
 n:Int
 bits:Int
 deriving DecidableEq
structure Cd where
 sign:List Bc
 regs:List Ty
 slots:List Sl
 list:List AA
structure Rw where
 d:Int
 a:Int
 b:Int
 c:Int
 n:Int
 deriving DecidableEq
def Ad(op:Int):Rw:=
 if op=1 then⟨1,0,0,0,7⟩
 else if op=2 then⟨2,0,0,0,8⟩
 else if op=3 then⟨6,5,0,0,0⟩
 else if 4<=op/\op<=10 then⟨4,5,5,0,0⟩
 else if 11<=op/\op<=14 then⟨4,5,0,0,0⟩
 else if op=15 then⟨4,5,5,5,0⟩
 else if op=16 then⟨1,1,2,0,0⟩
 else if op=17 then⟨1,2,0,0,0⟩
 else if op=18 then⟨2,1,0,0,0⟩
 else if 19<=op/\op<=20 then⟨1,3,0,0,0⟩
 else if op=21\/op=25 then⟨2,2,0,0,0⟩
 else if op=26 then⟨2,2,2,2,0⟩
 else if 22<=op/\op<=28 then⟨2,2,2,0,0⟩
 else if 29<=op/\op<=30 then⟨3,0,0,0,9⟩
 else if op=31 then⟨0,3,0,0,9⟩
 else if op=32 then⟨6,0,0,0,10⟩
 else if op=33 then⟨0,6,0,0,10⟩
 else if op=34 then⟨0,2,0,0,0⟩
 else if op=36 then⟨0,0,0,0,11⟩
 else⟨0,0,0,0,0⟩
def Ax(op:Int):Bool:=decide (1<=op)&&decide (op<=37)
def Do(op:Int):Bool:=decide (3<=op)&&decide (op<=15)
def BA(op:Int):Bool:=(decide (29<=op)&&decide (op<=33))||Do op
def Ak(n:Int)(k:Nat):Bool:=decide (0<=n)&&decide (n<(k:Int))
def BP(n:Int):Bool:=decide (0<=n)&&decide (n<=2147483647)
def Bz(a:Int):Bool:=decide ((if Il a then 2143289344 else a)=a)
def Ay(t:Ty)(n:Nat):Bool:=if t.kind=1\/t.kind=2 then t.par==0 else if t.kind=3 then Ak t.par n else false
def DS(s:Sl):Bool:=if s.ty.kind=2 then s.bits==0&&BP s.int_ else s.int_==0&&Bz s.bits
def AX(s:Sl)(n:Nat):Bool:=Ay s.ty n&&DS s
def Aq(l:List Ty)(n:Int):Ty:=if Ak n l.length then(l[n.toNat]?).getD ⟨0,0⟩else⟨0,0⟩
def H3(i:AA)(r:Rw):Int:=if r.d=0 then i.a else i.d
def AE(l:List Ty)(i:AA)(r:Rw):Ty:=Aq l (H3 i r)
def Dr(l:Int)(t m:Ty):Bool:=
 if l=1 then t.kind==1
 else if l=2 then t.kind==2
 else if l=3 then t.kind==3
 else if l=4 then t.kind==1||t.kind==3
 else if l=5 then decide (t=m)||(t.kind==1&&m.kind==3)
 else decide (t=m)
def Ah(rs:List Ty)(l n:Int)(m:Ty):Bool:=if l=0 then n==0 else Ak n rs.length&&Dr l (Aq rs n) m
def Cx(ps:List Bc)(n:Int):Int:=((ps[n.toNat]?).map fun p=>p.kind).getD 0
def DB(ss:List Sl)(n:Int):Ty:=((ss[n.toNat]?).map fun s=>s.ty).getD ⟨0,0⟩
def G0(c:Cd)(n l:Int)(m:Ty):Bool:=
 if l=8 then BP n
 else if l=9 then n==0||(n==1&&Cx c.sign m.par==2)
 else if l=10 then Ak n c.slots.length&&decide (DB c.slots n=m)
 else if l=11 then Ak n c.sign.length
 else n==0
def By(c:Cd)(i:AA)(l:Int)(m:Ty):Bool:=if l=7 then i.n==0&&Bz i.bits else i.bits==0&&G0 c i.n l m
def B4(c:Cd)(i:AA)(r:Rw):Bool:=
 Ah c.regs r.d i.d (AE c.regs i r)&&(Ah c.regs r.a i.a (AE c.regs i r)&&(Ah c.regs r.b i.b (AE c.regs i r)&&(Ah c.regs r.c i.c (AE c.regs i r)&&By c i r.n (AE c.regs i r))))
structure Bk where
 loop:Bool
 par:Int
 ahead:Nat
structure Wk where
 set:List Nat
 opens:List Bk
def AG(s:Wk):Bool:=match s.opens with |b::_=>b.loop|[]=>false
def BC(s:Wk):Int:=match s.opens with |b::_=>b.par|[]=>0
def AJ(c:Cd)(s:Wk)(i:AA)(r:Rw):Bool:=
 if i.op=34\/i.op=36 then !AG s&&decide (s.opens.length<64)
 else if i.op=35 then !s.opens.isEmpty&& !AG s
 else if i.op=37 then AG s
 else !AG s||(BA i.op&&decide (AE c.regs i r=⟨3,BC s⟩))
def AH(i:AA)(r:Rw):List Int:=(if r.a=0 then [] else [i.a])++((if r.b=0 then [] else [i.b])++(if r.c=0 then [] else [i.c]))
def B0(s:Wk):Wk:=match s.opens with
 |b::r=>⟨if b.loop then s.set else s.set.take b.ahead,r⟩
 |[]=>s
def Em(s:Wk)(i:AA):Wk:=
 if i.op=34\/i.op=36 then⟨s.set,⟨i.op==36,i.n,s.set.length⟩::s.opens⟩else if i.op=35\/i.op=37 then B0 s else s
def GG(s:Wk)(i:AA)(r:Rw):Wk:=if r.d≠0/\i.d.toNat∉s.set then⟨s.set++[i.d.toNat],s.opens⟩else s
def Fu(s:Wk)(i:AA)(r:Rw):Wk:=GG (Em s i) i r
def Fw(s:Wk)(i:AA)(r:Rw):Bool:=(AH i r).all fun n=>decide (n.toNat∈s.set)
def Ba(c:Cd)(s:Wk)(i:AA):Bool:=Ax i.op&&(B4 c i (Ad i.op)&&(AJ c s i (Ad i.op)&&Fw s i (Ad i.op)))
def AC(s:Wk)(i:AA):Wk:=Fu s i (Ad i.op)
def FI(c:Cd):Wk->Nat->List AA->Int×Int
 |s,k,[]=>if s.opens.isEmpty then(0,0)else(160,k)
 |s,k,i::r=>if Ba c s i then FI c (AC s i) (k+1) r else(160,k)
def Am(c:Cd):Bool:=c.regs.all fun t=>Ay t c.sign.length
def Be(c:Cd):Bool:=c.slots.all fun s=>AX s c.sign.length
def BI(c:Cd):Int:=
 if AM c.sign≠0 then AM c.sign
 else if 16384<c.regs.length\/32768<c.list.length then 181
 else if 4096<c.slots.length then 180
 else if Am c&&Be c then 0 else 160
def AB(c:Cd):Int×Int:=if BI c≠0 then(BI c,-1)else FI c ⟨[],[]⟩ 0 c.list
def Pl:Nat->List Bk->Prop
 |_,[]=>True
 |n,b::r=>b.ahead<=n/\Pl b.ahead r
theorem Pl.mono:∀ {r:List Bk} {n m:Nat},Pl n r->n<=m->Pl m r
 |[],_,_,_,_=>trivial
 |b::r,n,m,h,k=>⟨gH h.1 k,h.2⟩
structure Cu(n:Nat)(s:Wk):Prop where
 nodup:s.set.Nodup
 lt:∀x∈s.set,x<n
 opens:Pl s.set.length s.opens
 nest:s.opens.length<=64
theorem Cu.start(n:Nat):Cu n ⟨[],[]⟩:=⟨List.nodup_nil,fun x h=>absurd h sM,trivial,gI _⟩
theorem Cu.leave{n:Nat}{s:Wk}(h:Cu n s):Cu n (B0 s):=by
 obtain⟨X,O⟩:=s;cases O with
 |nil=>exact h
 |cons b r=>
  obtain⟨h1,h2,⟨h3,h4⟩,h5⟩:=h;simp only[B0];simp only at h1 h2 h3 h4 h5;split
  .exact⟨h1,h2,h4.mono h3,by simp at h5 |-;omega⟩
  .refine⟨List.Sublist.nodup (List.take_sublist _ _) h1,fun x hx=>h2 x (List.mem_of_mem_take hx),?_,by simp at h5 |-;omega⟩;simp only[List.length_take];rw[Nat.min_eq_left h3];exact h4
theorem Cu.turn{n:Nat}{s:Wk}{i:AA}(h:Cu n s)(hm:i.op=34\/i.op=36->s.opens.length<64):Cu n (Em s i):=by
 unfold Em;split
 .rename_i e;exact⟨h.nodup,h.lt,⟨gF _,h.opens⟩,by have:=hm e;simp;omega⟩
 .split
  .exact h.leave
  .exact h
theorem Cu.add{n:Nat}{s:Wk}{i:AA}{r:Rw}(h:Cu n s)(hd:r.d≠0->i.d.toNat<n):Cu n (GG s i r):=by
 unfold GG;split
 .rename_i e;refine⟨?_,fun x hx=>?_,h.opens.mono sM,h.nest⟩
  .rw[List.nodup_append];refine⟨h.nodup,sM,fun a ha b hb=>?_⟩;simp at hb;subst hb;exact fun e'=>e.2 (e'▸ha)
  .rcases List.mem_append.1 hx with hx|hx
   .exact h.lt x hx
   .simp at hx;subst hx;exact hd e.1
 .exact h
theorem LM:∀ {n:Nat} {l:List Nat},l.Nodup->(∀x∈l,x<n)->l.length<=n:=by
 intro n;induction n with
 |zero=>intro l _ h;cases l with
  |nil=>exact gF _
  |cons a t=>exact absurd (h a sM) (Nat.not_lt_zero _)
 |succ n ih=>
  intro l hd h;have h1:=ih (l:=l.erase n) (hd.erase n) fun x hx=>by
   have h2:=h x (List.mem_of_mem_erase hx);have h3:x≠n:=fun e=>by
    subst e;exact(List.Nodup.not_mem_erase hd) hx
   omega
  have h2:l.length<=(l.erase n).length+1:=by
   rw[List.length_erase];split<;>omega
  omega
theorem Cu.len{n:Nat}{s:Wk}(h:Cu n s):s.set.length<=n:=LM h.nodup h.lt
theorem Dq{n:Int}{k:Nat}:Ak n k=true↔0<=n/\n<(k:Int):=by unfold Ak;simp
theorem Bi{rs:List Ty}{l n:Int}{m:Ty}(h:Ah rs l n m=true)(hl:l≠0):0<=n/\n<(rs.length:Int):=by
 unfold Ah at h;rw[if_neg hl]at h;simp only[Bool.and_eq_true]at h;exact Dq.1 h.1
theorem Gi{c:Cd}{i:AA}{r:Rw}(h:B4 c i r=true):Ah c.regs r.d i.d (AE c.regs i r)=true:=by
 unfold B4 at h;simp only[Bool.and_eq_true]at h;exact h.1
theorem J1{c:Cd}{i:AA}{r:Rw}(h:B4 c i r=true):Ah c.regs r.a i.a (AE c.regs i r)=true:=by
 unfold B4 at h;simp only[Bool.and_eq_true]at h;exact h.2.1
theorem J2{c:Cd}{i:AA}{r:Rw}(h:B4 c i r=true):Ah c.regs r.b i.b (AE c.regs i r)=true:=by
 unfold B4 at h;simp only[Bool.and_eq_true]at h;exact h.2.2.1
theorem J3{c:Cd}{i:AA}{r:Rw}(h:B4 c i r=true):Ah c.regs r.c i.c (AE c.regs i r)=true:=by
 unfold B4 at h;simp only[Bool.and_eq_true]at h;exact h.2.2.2.1
theorem Db{c:Cd}{s:Wk}{i:AA}(h:Ba c s i=true):Ax i.op=true/\B4 c i (Ad i.op)=true/\AJ c s i (Ad i.op)=true/\Fw s i (Ad i.op)=true:=by
 unfold Ba at h;simp only[Bool.and_eq_true]at h;exact h
theorem E3{c:Cd}{s:Wk}{i:AA}{r:Rw}(h:AJ c s i r=true)(e:i.op=34\/i.op=36):s.opens.length<64:=by
 unfold AJ at h;rw[if_pos e]at h;simp only[Bool.and_eq_true,decide_eq_true_eq]at h;exact h.2
theorem Cu.step{c:Cd}{s:Wk}{i:AA}(h:Cu c.regs.length s)(t:Ba c s i=true):Cu c.regs.length (AC s i):=by
 obtain⟨_,h2,h3,_⟩:=Db t;refine(h.turn (E3 h3)).add fun hd=>?_;have:=Bi (Gi h2) hd;omega
theorem Kr(a:Int)(h0:0<=a)(h1:a<4294967296)(w:World):
 Calls prog 129 #[.int .u32 a] w fun e w'=>e=.returned (.tuple #[.bool (decide (2147483648<=a)),.int .i64 (a/8388608%256),.int .i64 (a%8388608)])/\w'=w:=by
 have e1:=GK a h0 h1;have e2:=Pw (a/8388608) oM oM;have e3:=OE a h0 h1;go_enter func129,ntmps129;go_wp2
 go_ret3
 exact⟨rfl,rfl⟩
theorem FV(a:Int)(h0:0<=a)(h1:a<4294967296)(w:World):
 Calls prog 127 #[.int .u32 a] w fun e w'=>e=.returned (.int .i64 (Hr a))/\w'=w:=by
 by_cases c1:a/8388608%256=255
 .by_cases c2:a%8388608=0
  .have hc:Hr a=4:=by unfold Hr;rw[if_pos c1,if_pos c2]
   exact Pt
  .have hc:Hr a=5:=by unfold Hr;rw[if_pos c1,if_neg c2]
   exact Pt
 .by_cases c2:a/8388608%256=0
  .by_cases c3:a%8388608=0
   .have hc:Hr a=1:=by unfold Hr;rw[if_neg c1,if_pos c2,if_pos c3]
    exact Pt
   .have hc:Hr a=2:=by unfold Hr;rw[if_neg c1,if_pos c2,if_neg c3]
    exact Pt
  .have hc:Hr a=3:=by unfold Hr;rw[if_neg c1,if_neg c2]
   exact Pt
theorem JW(a:Int)(h0:0<=a)(h1:a<4294967296)(hn:Il a=true)(w:World):
 Calls prog 127 #[.int .u32 a] w fun e w'=>e=.returned (.int .i64 5)/\w'=w:=by
 have:=FV a h0 h1 w;rwa[Np a hn h0 h1]at this
theorem JS(a:Int)(h0:0<=a)(h1:a<4294967296)(w:World):
 Calls prog 125 #[.int .u32 a] w fun e w'=>e=.returned (.int .u32 (Cg a))/\w'=w:=by
 cases hn:Il a
 .have hc:Cg a=a:=by unfold Cg;simp[hn]
  have h5:(Hr a==5)=false:=by have:=Nq a hn h0 h1;simpa using this
  rw[hc];clear hc hn;go_enter func125,ntmps125;go_wp2_with(go_at_call 127;refine(FV _ h0 h1 _).mono ?_;rintro e w' ⟨rfl,rfl⟩);go_ret;exact⟨rfl,rfl⟩
 .have hc:Cg a=2143289344:=by unfold Cg;simp[hn]
  rw[hc];clear hc;go_enter func125,ntmps125;go_wp2_with(go_at_call 127;refine(JW _ h0 h1 hn _).mono ?_;rintro e w' ⟨rfl,rfl⟩);go_ret;exact⟨rfl,rfl⟩
def Es(t:Ty):List Value:=[.int .i64 t.kind,.int .i64 t.par]
def F1(s:Sl):List Value:=[.int .i64 s.ty.kind,.int .i64 s.ty.par,.bool s.keep,.int .u32 s.bits,.int .i64 s.int_]
def BK(i:AA):List Value:=[.int .i64 i.op,.int .i64 i.d,.int .i64 i.a,.int .i64 i.b,.int .i64 i.c,.int .i64 i.n,.int .u32 i.bits]
theorem F3(t:Ty):(Es t).length=2:=rfl
theorem F2(t:Sl):(F1 t).length=5:=rfl
theorem EX(t:AA):(BK t).length=7:=rfl
theorem Eg(t:Bc):(Ap t).length=3:=rfl
def Cc(t:Ty):Value:=.agg #[.int .i64 t.kind,.int .i64 t.par]
def BV(r:Rw):Value:=.agg #[.int .i64 r.d,.int .i64 r.a,.int .i64 r.b,.int .i64 r.c,.int .i64 r.n]
theorem kc{w w':World}(k:Below w.heap.size w w'){a:Addr}{v:Value}(h:w.cell? a=some v):w'.cell? a=some v:=(k.cell (Ae h)).trans h
theorem kf{w w':World}(k:Below w.heap.size w w'){a:Addr}{v:Value}(h:w.cell? a=some v)(f:w.frozen? a=false):w'.frozen? a=false:=(k.frozen (Ae h)).trans f
def Ai(w:World)(b o:Nat)(cs:List Value):Prop:=∀j (h:j<cs.length),w.cell? ⟨b,o+j,none⟩=some cs[j]
theorem Ai.below{w w':World}{b o:Nat}{cs:List Value}(h:Ai w b o cs)(k:Below w.heap.size w w'):Ai w' b o cs:=fun j hj=>(k.cell (Ae (h j hj))).trans (h j hj)
theorem Ai.at{w:World}{b o:Nat}{cs:List Value}(h:Ai w b o cs)(j:Nat){v:Value}(e:cs[j]? =some v):w.cell? ⟨b,o+j,none⟩=some v:=by
 obtain⟨hj,e⟩:=List.getElem?_eq_some_iff.1 e;rw[h j hj,e]
theorem Ai.of_block{w w':World}{b o:Nat}{cs:List Value}(h:Ai w b o cs)(e:w'.heap[b]? =w.heap[b]?):Ai w' b o cs:=fun j hj=>(gC e).trans (h j hj)
def AZ{α:Type}(k:Nat)(f:α->List Value)(w:World)(v:Value)(l:List α):Prop:=
 ∃p c,v=.slice p l.length c/\(l=[]\/∃b o,p=some ⟨b,o,none⟩/\∀i (h:i<l.length),Ai w b (o+i*k) (f l[i]))
theorem AZ.below{α:Type}{k:Nat}{f:α->List Value}{w w':World}{v:Value}{l:List α}(h:AZ k f w v l)(q:Below w.heap.size w w'):AZ k f w' v l:=by
 obtain⟨p,c,hv,h⟩:=h;exact⟨p,c,hv,h.imp id fun⟨b,o,hp,h⟩=>⟨b,o,hp,fun i hi=>(h i hi).below q⟩⟩
theorem AZ.at{α:Type}{k:Nat}{f:α->List Value}{w:World}{p:Option Addr}{n c:Nat}{l:List α}(h:AZ k f w (.slice p n c) l){i:Nat}(hi:i<l.length):∃b o,p=some ⟨b,o,none⟩/\Ai w b (o+i*k) (f l[i]):=by
 obtain⟨p',c',hv,h⟩:=h;simp only[Value.slice.injEq]at hv;obtain⟨rfl,rfl,rfl⟩:=hv;rcases h with h|⟨b,o,hp,h⟩
 .rw[h]at hi;exact absurd hi (Nat.not_lt_zero _)
 .exact⟨b,o,hp,h i hi⟩
theorem AZ.rd{w:World}{v:Value}{l:List Bc}(h:AZ 3 Ap w v l):Rd w v l:=by
 obtain⟨p,c,hv,h⟩:=h;exact⟨p,c,hv,h.imp id fun⟨b,o,hp,h⟩=>⟨b,o,hp,fun i hi=>⟨(h i hi).at 0 rfl,(h i hi).at 1 rfl,(h i hi).at 2 rfl⟩⟩⟩
structure CJ(w:World)(v0 v1 v2 v3:Value)(c:Cd):Prop where
 sign:AZ 3 Ap w v0 c.sign
 regs:AZ 2 Es w v1 c.regs
 slots:AZ 5 F1 w v2 c.slots
 list:AZ 7 BK w v3 c.list
theorem CJ.below{w w':World}{v0 v1 v2 v3:Value}{c:Cd}(h:CJ w v0 v1 v2 v3 c)(k:Below w.heap.size w w'):CJ w' v0 v1 v2 v3 c:=⟨h.sign.below k,h.regs.below k,h.slots.below k,h.list.below k⟩
def Bq(w:World)(C:Nat)(v0 v1 v2 v3:Value)(c:Cd):Prop:=Ai w C 0 [v0,v1,v2,v3]/\CJ w v0 v1 v2 v3 c
theorem Bq.below{w w':World}{C:Nat}{v0 v1 v2 v3:Value}{c:Cd}(h:Bq w C v0 v1 v2 v3 c)(k:Below w.heap.size w w'):Bq w' C v0 v1 v2 v3 c:=⟨h.1.below k,h.2.below k⟩
structure Bh(c:Cd):Prop where
 signL:c.sign.length<=140737488351232
 names:∀p∈c.sign,p.name.size<=140737488351232
 regsL:c.regs.length<=140737488351232
 slotsL:c.slots.length<=140737488351232
 listL:c.list.length<=140737488351232
 sbits:∀s∈c.slots,0<=s.bits/\s.bits<4294967296
 ibits:∀i∈c.list,0<=i.bits/\i.bits<4294967296
theorem BR(n:Int)(k:Nat)(w:World):Calls prog 118 #[.int .i64 n,.int .i64 k] w fun e w'=>e=.returned (.bool (Ak n k))/\w'=w:=by
 unfold Ak;by_cases h:0<=n
 all_goals
  go_enter func118,ntmps118;exact Q5
theorem EH(n:Int)(w:World):Calls prog 119 #[.int .i64 n] w fun e w'=>e=.returned (.bool (BP n))/\w'=w:=by
 unfold BP;by_cases h:0<=n
 all_goals
  go_enter func119,ntmps119;exact Q5
theorem Fm(a:Int)(h0:0<=a)(h1:a<4294967296)(w:World):Calls prog 120 #[.int .u32 a] w fun e w'=>e=.returned (.bool (Bz a))/\w'=w:=by
 have hc:Bz a=(Cg a==a):=by unfold Bz Cg;cases Il a<;>rw[Bool.eq_iff_iff]<;>simp
 rw[hc];have HK:Hid (∀w,Calls prog 125 #[.int .u32 a] w fun e w'=>e=.returned (.int .u32 (Cg a))/\w'=w):=JS a h0 h1;clear hc;obtain⟨x,hx⟩:=gA (Cg a)
 rw[hx]at HK |-;clear hx;go_enter func120,ntmps120;go_wp2_with(go_at_call 125;refine(HK.out _).mono ?_;rintro e w1 ⟨rfl,rfl⟩);go_ret;exact⟨rfl,rfl⟩
theorem DR(t:Ty)(p:Option Addr)(n c:Nat)(hn:n<=140737488351232)(w:World):Calls prog 99 #[Cc t,.slice p n c] w fun e w'=>e=.returned (.bool (Ay t n))/\Below w.heap.size w w':=by
 obtain⟨K,P⟩:=t;have HK:Hid (∀w,Calls prog 118 #[.int .i64 P,.int .i64 n] w fun e w'=>e=.returned (.bool (Ak P n))/\w'=w):=BR P n;unfold Ay Cc;simp only;by_cases h1:K=1
 .subst h1;rw[if_pos (Or.inl rfl)];exact QB
 .by_cases h2:K=2
  .subst h2;rw[if_pos (Or.inr rfl)];exact QB
  .rw[if_neg (fun e=>e.elim h1 h2)];have h1':(K==1)=false:=by simpa using h1
   have h2':(K==2)=false:=by simpa using h2
   by_cases h3:K=3
   .subst h3;rw[if_pos rfl];go_enter func99,ntmps99;exact Rv
   .rw[if_neg h3];have h3':(K==3)=false:=by simpa using h3
    clear h1 h2 h3;exact QB
def FG(s:Sl):Value:=.agg #[.int .i64 s.ty.kind,.int .i64 s.ty.par,.bool s.keep,.int .u32 s.bits,.int .i64 s.int_]
theorem Hv(s:Sl)(h0:0<=s.bits)(h1:s.bits<4294967296)(w:World):Calls prog 100 #[FG s] w fun e w'=>e=.returned (.bool (DS s))/\Below w.heap.size w w':=by
 have HK:Hid (∀w,Calls prog 120 #[.int .u32 s.bits] w fun e w'=>e=.returned (.bool (Bz s.bits))/\w'=w):=Fm s.bits h0 h1;have HL:Hid (∀w,Calls prog 119 #[.int .i64 s.int_] w fun e w'=>e=.returned (.bool (BP s.int_))/\w'=w):=EH s.int_;obtain⟨⟨K,P⟩,Q,B,I⟩:=s;unfold DS FG;simp only at HK HL h0 h1 |-;obtain⟨X,hX⟩:=gA (Bz B)
 obtain⟨Y,hY⟩:=gA (BP I)
 rw[hX]at HK |-;rw[hY]at HL |-;clear hX hY;by_cases h2:K=2
 .subst h2;rw[if_pos rfl];cases hb:(B==0)
  all_goals
   go_enter func100,ntmps100;go_wp2_with(go_at_call 119;refine(HL.out _).mono ?_;rintro e w1 ⟨rfl,rfl⟩);go_ret;exact⟨Ab (by simp[hb]),A5 _ _⟩
 .rw[if_neg h2];have h2':(K==2)=false:=by simpa using h2
  clear h2;cases hb:(I==0)
  all_goals
   go_enter func100,ntmps100;go_wp2_with(go_at_call 120;refine(HK.out _).mono ?_;rintro e w1 ⟨rfl,rfl⟩);go_ret;exact⟨Ab (by simp[hb]),A5 _ _⟩
theorem N9(K P L Q:Int):decide ((⟨K,P⟩:Ty)=⟨L,Q⟩)=(K==L&&P==Q):=by
 rw[Bool.eq_iff_iff];simp
theorem Ki(l:Int)(t m:Ty)(w:World):Calls prog 121 #[.int .i64 l,Cc t,Cc m] w fun e w'=>e=.returned (.bool (Dr l t m))/\Below w.heap.size w w':=by
 obtain⟨K,P⟩:=t;obtain⟨L,Q⟩:=m;unfold Dr Cc;simp only[N9];by_cases h1:l=1
 .subst h1;rw[if_pos rfl];go_enter func121,ntmps121;go_wp2;go_ret;exact Ni
 rw[if_neg h1];by_cases h2:l=2
 .subst h2;rw[if_pos rfl];clear h1;go_enter func121,ntmps121;go_wp2;go_ret;exact Ni
 rw[if_neg h2];by_cases h3:l=3
 .subst h3;rw[if_pos rfl];clear h1 h2;go_enter func121,ntmps121;go_wp2;go_ret;exact Ni
 rw[if_neg h3];by_cases h4:l=4
 .subst h4;rw[if_pos rfl];clear h1 h2 h3;cases hk:(K==1)
  all_goals
   go_enter func121,ntmps121;go_wp2;go_ret;exact⟨Ab (by simp[hk]),bel (A5 _ _) (A5 _ _)⟩
 rw[if_neg h4];by_cases h5:l=5
 .subst h5;rw[if_pos rfl];clear h1 h2 h3 h4;cases hk:(K==1)<;>cases hl:(K==L)<;>cases hq:(P==Q)
  all_goals
   go_enter func121,ntmps121;go_wp2;go_ret;exact⟨Ab (by simp[hk,hl,hq]),bel (A5 _ _) (A5 _ _)⟩
 rw[if_neg h5];have h1':(l==1)=false:=by simpa using h1
 have h2':(l==2)=false:=by simpa using h2
 have h3':(l==3)=false:=by simpa using h3
 have h4':(l==4)=false:=by simpa using h4
 have h5':(l==5)=false:=by simpa using h5
 clear h1 h2 h3 h4 h5;go_enter func121,ntmps121;go_wp2
 all_goals
  go_ret;exact⟨Ab (by simp[*]),bel (A5 _ _) (A5 _ _)⟩
theorem CV{l:List Ty}{n:Int}{k:Nat}(h:n=(k:Int))(hk:k<l.length):Aq l n=l[k]:=by
 subst h;unfold Aq;rw[if_pos (Dq.2 ⟨oM,oM⟩),Int.toNat_natCast,gB hk];rfl
theorem Cm{n:Int}{k:Nat}(h:Ak n k=true):∃m:Nat,n=(m:Int)/\m<k:=by
 obtain⟨h0,h1⟩:=Dq.1 h;exact⟨n.toNat,oM,oM⟩
theorem Bt(C:Nat)(v0 v1 v2 v3:Value)(c:Cd)(hk:Bh c)(l n:Int)(m:Ty)(w:World)(hc:Bq w C v0 v1 v2 v3 c):
 Calls prog 103 #[.pointer (some ⟨C,0,none⟩),.int .i64 l,.int .i64 n,Cc m] w fun e w'=>e=.returned (.bool (Ah c.regs l n m))/\Below w.heap.size w w':=by
 unfold Ah;by_cases h0:l=0
 .subst h0;rw[if_pos rfl];unfold Cc;go_enter func103,ntmps103;go_wp2;go_ret;exact⟨rfl,A5 _ _⟩
 rw[if_neg h0];have h0':(l==0)=false:=by simpa using h0
 clear h0;have HB:=hk.regsL;have K1:=BR n c.regs.length;obtain⟨hcc,hcv⟩:=hc;have c1:=hcc.at 1 rfl;rw[Nat.zero_add]at c1;have hr:=hcv.regs;obtain⟨p,q,rfl,hrr⟩:=hcv.regs;have HN:Hid (c.regs.length=c.regs.length):=rfl;obtain⟨X,hX⟩:=gA (Ak n c.regs.length)
 simp only[hX]at K1;rw[hX];have hC:=Ae c1;simp only at hC;cases X
 .clear hr hrr hcc hcv;obtain⟨N,hN⟩:=gA (c.regs.length)
  rw[hN]at K1 c1 HB;have HK:Hid (∀w,Calls prog 118 #[.int .i64 n,.int .i64 N] w fun e w'=>e=.returned (.bool false)/\w'=w):=K1;clear hN K1 hX HN;obtain⟨A,B⟩:=m;unfold Cc;go_enter func103,ntmps103;go_wp2;have hC':C≠w.heap.size:=oM;refine rG (fun v=>v.cell? ⟨C,1,none⟩=some (.slice p N q)) fun hJ=>?_;exact QV
 .obtain⟨k,hnk,hkl⟩:=Cm hX;rw[CV hnk hkl];have hti:c.regs[k]=c.regs[k]:=rfl;obtain⟨b,o,hp,hx⟩:=hr.at hkl;subst hp;subst hnk;have x0:=hx.at 0 rfl;have x1:=hx.at 1 rfl;rw[Nat.add_zero]at x0;have hbl:=Ae x0;simp only at hbl;have K2:=Ki l c.regs[k] m;obtain⟨T,hT⟩:=gA (c.regs[k])
  rw[hT]at x0 x1 K2 |-;obtain⟨N,hN⟩:=gA (c.regs.length)
  rw[hN]at K1 c1 HB hkl;have HK:Hid (∀w,Calls prog 118 #[.int .i64 (k:Int),.int .i64 N] w fun e w'=>e=.returned (.bool true)/\w'=w):=K1;clear hN K1 hX HN hr hrr hcc hcv hx hti hT;obtain⟨A,B⟩:=m;obtain⟨D,E⟩:=T;unfold Cc at K2 |-;simp only at x0 x1 K2 |-;obtain⟨Y,hY⟩:=gA (Dr l ⟨D,E⟩ ⟨A,B⟩)
  rw[hY]at K2 |-;have HM:Hid (∀w,Calls prog 121 #[.int .i64 l,.agg #[.int .i64 D,.int .i64 E],.agg #[.int .i64 A,.int .i64 B]] w fun e w'=>e=.returned (.bool Y)/\Below w.heap.size w w'):=K2;clear K2 hY;have i1:(0:Int)<=(k:Int):=oM;have i2:(k:Int)<(N:Int):=oM;have hC':C≠w.heap.size:=oM;have hb':b≠w.heap.size:=oM;have HC:Hid (∀v,Below (w.alloc (.cells #[.int .i64 A,.int .i64 B] 62)).heap.size (w.alloc (.cells #[.int .i64 A,.int .i64 B] 62)) v->v.cell? ⟨C,1,none⟩=some (.slice (some ⟨b,o,none⟩) N q)/\v.cell? ⟨b,o+k*2,none⟩=some (.int .i64 D)/\v.cell? ⟨b,o+k*2+1,none⟩=some (.int .i64 E)/\v.cell? ⟨w.heap.size,0,none⟩=some (.int .i64 A)/\v.cell? ⟨w.heap.size,1,none⟩=some (.int .i64 B)):=
   fun v hv=>⟨kc hv (kc (A5 _ _) c1),kc hv (kc (A5 _ _) x0),kc hv (kc (A5 _ _) x1),kc hv sG,kc hv sG⟩
  go_enter func103,ntmps103;go_wp2;refine rG (fun v=>v.cell? ⟨C,1,none⟩=some (.slice (some ⟨b,o,none⟩) N q)/\v.cell? ⟨b,o+k*2,none⟩=some (.int .i64 D)/\v.cell? ⟨b,o+k*2+1,none⟩=some (.int .i64 E)/\v.cell? ⟨w.heap.size,0,none⟩=some (.int .i64 A)/\v.cell? ⟨w.heap.size,1,none⟩=some (.int .i64 B)) fun hJ=>?_;refine wpAnyH_take (i:=0) (v:=?_) A7 kR kR kR A8 (Or.inl ⟨rF,?_⟩) A9 ?_
  rotate_left 1
  ·(intro wS hSw;(try dsimp only at hSw);go_simp;try(with_reducible rfl))
  try simp only[Act.put,List.setIfInBounds_toArray,List.set_cons_zero,List.set_cons_succ]
  refine wpAnyH_take (i:=1) (v:=?_) A7 kR kR kR A8 (Or.inl ⟨rF,?_⟩) A9 ?_
  rotate_left 1
  ·(intro wS hSw;(try dsimp only at hSw);go_simp;try(with_reducible rfl))
  try simp only[Act.put,List.setIfInBounds_toArray,List.set_cons_zero,List.set_cons_succ]
  refine wpAnyH_take (i:=2) (v:=?_) A7 kR kR kR A8 (Or.inl ⟨rF,?_⟩) A9 ?_
  rotate_left 1
  ·(intro wS hSw;(try dsimp only at hSw);go_simp;try(with_reducible rfl))
  try simp only[Act.put,List.setIfInBounds_toArray,List.set_cons_zero,List.set_cons_succ]
  refine wpAnyH_take (i:=3) (v:=?_) A7 kR kR kR A8 (Or.inl ⟨rF,?_⟩) A9 ?_
  rotate_left 1
  ·(intro wS hSw;(try dsimp only at hSw);go_simp;try(with_reducible rfl))
  try simp only[Act.put,List.setIfInBounds_toArray,List.set_cons_zero,List.set_cons_succ]
  refine wpAnyH_take (i:=4) (v:=?_) A7 kR kR kR A8 (Or.inl ⟨rF,?_⟩) A9 ?_
  rotate_left 1
  ·(intro wS hSw;(try dsimp only at hSw);go_simp;try(with_reducible rfl))
  try simp only[Act.put,List.setIfInBounds_toArray,List.set_cons_zero,List.set_cons_succ]
  refine wpAnyH_take (i:=5) (v:=?_) A7 kR kR kR A8 (Or.inl ⟨rF,?_⟩) A9 ?_
  rotate_left 1
  ·(intro wS hSw;(try dsimp only at hSw);go_simp;try(with_reducible rfl))
  try simp only[Act.put,List.setIfInBounds_toArray,List.set_cons_zero,List.set_cons_succ]
  clear hJ;refine AT 6 fun K hK=>?_;go_simp;(go_at_call 118;refine(HK.out _).mono ?_;rintro e w1 ⟨rfl,rfl⟩);try(go_wp2_with fail)
  refine B2 hK fun hJ=>?_;clear hK K;refine wpAnyH_take (i:=7) (v:=?_) A7 kR kR kR A8 (Or.inl ⟨rF,?_⟩) A9 ?_
  rotate_left 1
  ·(intro wS hSw;(try dsimp only at hSw);go_simp;try(with_reducible rfl))
  try simp only[Act.put,List.setIfInBounds_toArray,List.set_cons_zero,List.set_cons_succ]
  refine wpAnyH_take (i:=8) (v:=?_) A7 kR kR kR A8 (Or.inl ⟨rF,?_⟩) A9 ?_
  rotate_left 1
  ·(intro wS hSw;(try dsimp only at hSw);go_simp;try(with_reducible rfl))
  try simp only[Act.put,List.setIfInBounds_toArray,List.set_cons_zero,List.set_cons_succ]
  refine wpAnyH_take (i:=9) (v:=?_) A7 kR kR kR A8 (Or.inl ⟨rF,?_⟩) A9 ?_
  rotate_left 1
  ·(intro wS hSw;(try dsimp only at hSw);go_simp;try(with_reducible rfl))
  try simp only[Act.put,List.setIfInBounds_toArray,List.set_cons_zero,List.set_cons_succ]
  refine wpAnyH_take (i:=10) (v:=?_) A7 kR kR kR A8 (Or.inl ⟨rF,?_⟩) A9 ?_
  rotate_left 1
  ·(intro wS hSw;(try dsimp only at hSw);go_simp;try(with_reducible rfl))
  try simp only[Act.put,List.setIfInBounds_toArray,List.set_cons_zero,List.set_cons_succ]
  refine wpAnyH_take (i:=11) (v:=?_) A7 kR kR kR A8 (Or.inl ⟨rF,?_⟩) A9 ?_
  rotate_left 1
  ·(intro wS hSw;(try dsimp only at hSw);go_simp;try(with_reducible rfl))
  try simp only[Act.put,List.setIfInBounds_toArray,List.set_cons_zero,List.set_cons_succ]
  refine wpAnyH_take (i:=12) (v:=?_) A7 kR kR kR A8 (Or.inl ⟨rF,?_⟩) A9 ?_
  rotate_left 1
  ·(intro wS hSw;(try dsimp only at hSw);go_simp;try(with_reducible rfl))
  try simp only[Act.put,List.setIfInBounds_toArray,List.set_cons_zero,List.set_cons_succ]
  refine wpAnyH_take (i:=13) (v:=?_) A7 kR kR kR A8 (Or.inl ⟨rF,?_⟩) A9 ?_
  rotate_left 1
  ·(intro wS hSw;(try dsimp only at hSw);go_simp;try(with_reducible rfl))
  try simp only[Act.put,List.setIfInBounds_toArray,List.set_cons_zero,List.set_cons_succ]
  refine wpAnyH_take (i:=14) (v:=?_) A7 kR kR kR A8 (Or.inl ⟨rF,?_⟩) A9 ?_
  rotate_left 1
  ·(intro wS hSw;(try dsimp only at hSw);go_simp;try(with_reducible rfl))
  try simp only[Act.put,List.setIfInBounds_toArray,List.set_cons_zero,List.set_cons_succ]
  refine wpAnyH_take (i:=15) (v:=?_) A7 kR kR kR A8 (Or.inl ⟨rF,?_⟩) A9 ?_
  rotate_left 1
  ·(intro wS hSw;(try dsimp only at hSw);go_simp;try(with_reducible rfl))
  try simp only[Act.put,List.setIfInBounds_toArray,List.set_cons_zero,List.set_cons_succ]
  refine wpAnyH_take (i:=16) (v:=?_) A7 kR kR kR A8 (Or.inl ⟨rF,?_⟩) A9 ?_
  rotate_left 1
  ·(intro wS hSw;(try dsimp only at hSw);go_simp;try(with_reducible rfl))
  try simp only[Act.put,List.setIfInBounds_toArray,List.set_cons_zero,List.set_cons_succ]
  clear hJ;refine AT 17 fun K hK=>?_;go_simp;(go_at_call 121;refine(HM.out _).mono ?_;rintro e w1 ⟨rfl,hb1⟩;have HB1:=bel (Af _) hb1;obtain⟨y0,y1,y2,y3,y4⟩:=HC.out w1 HB1);try(go_wp2_with fail)
  refine B2 hK fun hJ=>?_;clear hK K;refine wpAnyH_take (i:=18) (v:=?_) A7 kR kR kR A8 (Or.inl ⟨rF,?_⟩) A9 ?_
  rotate_left 1
  ·(intro wS hSw;(try dsimp only at hSw);go_simp;try(with_reducible rfl))
  try simp only[Act.put,List.setIfInBounds_toArray,List.set_cons_zero,List.set_cons_succ]
  refine wpAnyH_take (i:=19) (v:=?_) A7 kR kR kR A8 (Or.inl ⟨rF,?_⟩) A9 ?_
  rotate_left 1
  ·(intro wS hSw;(try dsimp only at hSw);go_simp;try(with_reducible rfl))
  try simp only[Act.put,List.setIfInBounds_toArray,List.set_cons_zero,List.set_cons_succ]
  refine wpAnyH_done kR ?_ _;go_wp2;go_ret;exact⟨sM,bel (A5 _ _) HB1⟩
theorem ME(w:World):Calls prog 48 #[.int .i64 1] w fun e w'=>e=.returned (.tuple #[.string ⟨#[110,45,45,45,45]⟩,.bool true])/\w'=w:=by
 exact De
theorem MF(w:World):Calls prog 48 #[.int .i64 2] w fun e w'=>e=.returned (.tuple #[.string ⟨#[119,45,45,45,105]⟩,.bool true])/\w'=w:=by
 exact De
theorem MG(w:World):Calls prog 48 #[.int .i64 3] w fun e w'=>e=.returned (.tuple #[.string ⟨#[97,99,45,45,45]⟩,.bool true])/\w'=w:=by
 exact De
theorem MH(w:World):Calls prog 48 #[.int .i64 4] w fun e w'=>e=.returned (.tuple #[.string ⟨#[100,120,120,45,45]⟩,.bool true])/\w'=w:=by
 exact De
theorem MI(w:World):Calls prog 48 #[.int .i64 5] w fun e w'=>e=.returned (.tuple #[.string ⟨#[100,120,120,45,45]⟩,.bool true])/\w'=w:=by
 exact De
theorem MJ(w:World):Calls prog 48 #[.int .i64 6] w fun e w'=>e=.returned (.tuple #[.string ⟨#[100,120,120,45,45]⟩,.bool true])/\w'=w:=by
 exact De
theorem MK(w:World):Calls prog 48 #[.int .i64 7] w fun e w'=>e=.returned (.tuple #[.string ⟨#[100,120,120,45,45]⟩,.bool true])/\w'=w:=by
 exact De
theorem ML(w:World):Calls prog 48 #[.int .i64 8] w fun e w'=>e=.returned (.tuple #[.string ⟨#[100,120,120,45,45]⟩,.bool true])/\w'=w:=by
 exact De
theorem MM(w:World):Calls prog 48 #[.int .i64 9] w fun e w'=>e=.returned (.tuple #[.string ⟨#[100,120,120,45,45]⟩,.bool true])/\w'=w:=by
 exact De
theorem Jg(w:World):Calls prog 48 #[.int .i64 10] w fun e w'=>e=.returned (.tuple #[.string ⟨#[100,120,120,45,45]⟩,.bool true])/\w'=w:=by
 exact De
theorem Jh(w:World):Calls prog 48 #[.int .i64 11] w fun e w'=>e=.returned (.tuple #[.string ⟨#[100,120,45,45,45]⟩,.bool true])/\w'=w:=by
 exact De
theorem Ji(w:World):Calls prog 48 #[.int .i64 12] w fun e w'=>e=.returned (.tuple #[.string ⟨#[100,120,45,45,45]⟩,.bool true])/\w'=w:=by
 exact De

end Go.Proofs.YtnlgkkbmbijndaaGreat
