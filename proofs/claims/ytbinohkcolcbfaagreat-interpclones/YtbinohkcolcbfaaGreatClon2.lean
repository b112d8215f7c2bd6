import Derived.WalkKit
import Derived.WalkSpells
import Derived.Test.YtbinohkcolcbfaaGreatClon1
import Ieee.Arith
import Derived.Laws.FloatBits
import Derived.Test.YtbinohkcolcbfaaGreatRows
import Derived.WalkLawsBesides
import Derived.Laws.FloatArith
import Derived.Below
import Derived.Laws.Externs
import Derived.Deep.Draws
import Derived.Laws.ComplexArith
import Derived.Deep.RegionHeld3
import Derived.Deep.DeepCutAuto
import Derived.Handy
import Derived.Deep.OwnRows
import Derived.OwnWalk
import Derived.Deep.QuietTactic
import Derived.BigQuiet
import Derived.Deep.AppendLies
import Derived.Maps.OwnSet
import Derived.Maps.OwnOps
import Derived.Maps.Ext
namespace Go.Proofs.YtbinohkcolcbfaaGreat
open Go.RowKit Go.Proofs.Tryz
set_option linter.all false
set_option maxRecDepth 100000
set_option maxHeartbeats 16000000
theorem M3(a:Int)(k:Nat)(hk:k<32)(h0:0<=a)(h1:a<4294967296):bits .and .u32 a ((2^k-1:Nat):Int)=a%((2^k:Nat):Int):=by
 have hp:2^k<2^32:=Nat.pow_lt_pow_right oM hk;have hq:0<2^k:=Nat.two_pow_pos k;obtain⟨n,rfl⟩:=Int.eq_ofNat_of_zero_le h0;rw[u32_and _ _ h0 h1 oM oM,Int.toNat_natCast,Int.toNat_natCast,Nat.and_two_pow_sub_one_eq_mod];rfl
theorem YE(a:Int)(h0:0<=a)(h1:a<4294967296):bits .and .u32 a 8388607=a%8388608:=M3 a 23 oM h0 h1
theorem and_8(a:Int)(h0:0<=a)(h1:a<4294967296):bits .and .u32 a 255=a%256:=M3 a 8 oM h0 h1
theorem SH(a:Int)(h0:0<=a)(h1:a<4294967296):bits .and .u32 a 2147483648=if 2147483648<=a then 2147483648 else 0:=by
 rw[u32_and a _ h0 h1 oM oM,show(2147483648:Int).toNat=2^31 from rfl,nat_bit];split<;>omega
theorem M4(a:Int)(h0:0<=a)(h1:a<4294967296):(bits .and .u32 a 2147483648 != 0)=decide (2147483648<=a):=by
 rw[SH a h0 h1];split<;>simp[*]
theorem JR(a:Int)(h0:0<=a)(h1:a<4294967296):bits .andNot .u32 a 2147483648=a%2147483648:=by
 rw[u32_andNot a _ h0 h1 oM oM,show 4294967295-(2147483648:Int).toNat=2^31-1 from rfl,Nat.and_two_pow_sub_one_eq_mod];omega
def DA(a:Int):Int:=
 if a/8388608%256=255 then(if a%8388608=0 then 4 else 5)else if a/8388608%256=0 then(if a%8388608=0 then 1 else 2)else 3
def nan(a:Int):Bool:=decide (2139095040<a%2147483648)
theorem Lo(a:Int):nan a=true↔2139095040<a%2147483648:=by unfold nan;simp
theorem Xh(a:Int):nan a=false↔a%2147483648<=2139095040:=by unfold nan;simp
theorem Po(a:Int)(h:nan a=true)(h0:0<=a)(h1:a<4294967296):DA a=5:=by
 rw[Lo]at h;unfold DA;rw[if_pos oM,if_neg oM]
theorem Pp(a:Int)(h:nan a=false)(h0:0<=a)(h1:a<4294967296):DA a≠5:=by
 rw[Xh]at h;unfold DA;repeat' split
 all_goals omega
def C5(a:Int):Int:=if 2147483648<=a then -1-(a-2147483648)else a
theorem Dy(a:Int)(h0:0<=a)(h1:a<4294967296):0<=(if nan a then 2143289344 else a)/\(if nan a then 2143289344 else a)<4294967296:=by split<;>omega
def ofKey(k:Int):Int:=if k<0 then 2147483648+(-1-k)else k
def canon(a:Int):Int:=if nan a then 2143289344 else a
def next(a:Int):Int:=if nan a then 2143289344 else if a=2139095040 then a else ofKey (C5 a+1)
def mk(m:Bool)(e f:Int):Int:=if m then e*8388608+f+2147483648 else e*8388608+f
structure Ty where
 kind:Int
 par:Int
 deriving DecidableEq
structure Sl where
 ty:Ty
 keep:Bool
 bits:Int
 int_:Int
 deriving DecidableEq
structure Au where
 op:Int
 d:Int
 a:Int
 b:Int
 c:Int
 n:Int
 bits:Int
 deriving DecidableEq
structure Cd where
 sign:List BO
 regs:List Ty
 slots:List Sl
 list:List Au
structure Rw where
 d:Int
 a:Int
 b:Int
 c:Int
 n:Int
 deriving DecidableEq
def A6(op:Int):Rw:=
 if op=1 then⟨1,0,0,0,7⟩
 else if op=2 then⟨2,0,0,0,8⟩
 else if op=3 then⟨6,5,0,0,0⟩
 else if 4<=op/\op<=10 then⟨4,5,5,0,0⟩
 else if 11<=op/\op<=14 then⟨4,5,0,0,0⟩
 else if op=15 then⟨4,5,5,5,0⟩
 else if op=16 then⟨1,1,2,0,0⟩
 else if op=17 then⟨1,2,0,0,0⟩
 else if op=18 then⟨2,1,0,0,0⟩
 else if 19<=op/\op<=20 then⟨1,3,0,0,0⟩
 else if op=21\/op=25 then⟨2,2,0,0,0⟩
 else if op=26 then⟨2,2,2,2,0⟩
 else if 22<=op/\op<=28 then⟨2,2,2,0,0⟩
 else if 29<=op/\op<=30 then⟨3,0,0,0,9⟩
 else if op=31 then⟨0,3,0,0,9⟩
 else if op=32 then⟨6,0,0,0,10⟩
 else if op=33 then⟨0,6,0,0,10⟩
 else if op=34 then⟨0,2,0,0,0⟩
 else if op=36 then⟨0,0,0,0,11⟩
 else⟨0,0,0,0,0⟩
def As(op:Int):Bool:=decide (1<=op)&&decide (op<=37)
def Bg(op:Int):Bool:=decide (3<=op)&&decide (op<=15)
def Cm(op:Int):Bool:=(decide (29<=op)&&decide (op<=33))||Bg op
def Ak(n:Int)(k:Nat):Bool:=decide (0<=n)&&decide (n<(k:Int))
def CF(n:Int):Bool:=decide (0<=n)&&decide (n<=2147483647)
def Cj(a:Int):Bool:=decide ((if nan a then 2143289344 else a)=a)
def At(t:Ty)(n:Nat):Bool:=if t.kind=1\/t.kind=2 then t.par==0 else if t.kind=3 then Ak t.par n else false
def Ed(s:Sl):Bool:=if s.ty.kind=2 then s.bits==0&&CF s.int_ else s.int_==0&&Cj s.bits
def AP(s:Sl)(n:Nat):Bool:=At s.ty n&&Ed s
def A8(l:List Ty)(n:Int):Ty:=if Ak n l.length then(l[n.toNat]?).getD ⟨0,0⟩else⟨0,0⟩
def EY(i:Au)(r:Rw):Int:=if r.d=0 then i.a else i.d
def Aw(l:List Ty)(i:Au)(r:Rw):Ty:=A8 l (EY i r)
def B5(l:Int)(t m:Ty):Bool:=
 if l=1 then t.kind==1
 else if l=2 then t.kind==2
 else if l=3 then t.kind==3
 else if l=4 then t.kind==1||t.kind==3
 else if l=5 then decide (t=m)||(t.kind==1&&m.kind==3)
 else decide (t=m)
def Ac(rs:List Ty)(l n:Int)(m:Ty):Bool:=if l=0 then n==0 else Ak n rs.length&&B5 l (A8 rs n) m
def Ce(ps:List BO)(n:Int):Int:=((ps[n.toNat]?).map fun p=>p.kind).getD 0
def slotT(ss:List Sl)(n:Int):Ty:=((ss[n.toNat]?).map fun s=>s.ty).getD ⟨0,0⟩
def FO(c:Cd)(n l:Int)(m:Ty):Bool:=
 if l=8 then CF n
 else if l=9 then n==0||(n==1&&Ce c.sign m.par==2)
 else if l=10 then Ak n c.slots.length&&decide (slotT c.slots n=m)
 else if l=11 then Ak n c.sign.length
 else n==0
def Bv(c:Cd)(i:Au)(l:Int)(m:Ty):Bool:=if l=7 then i.n==0&&Cj i.bits else i.bits==0&&FO c i.n l m
def Bu(c:Cd)(i:Au)(r:Rw):Bool:=
 Ac c.regs r.d i.d (Aw c.regs i r)&&(Ac c.regs r.a i.a (Aw c.regs i r)&&(Ac c.regs r.b i.b (Aw c.regs i r)&&(Ac c.regs r.c i.c (Aw c.regs i r)&&Bv c i r.n (Aw c.regs i r))))
structure Bk where
 loop:Bool
 par:Int
 ahead:Nat
structure Wk where
 set:List Nat
 opens:List Bk
def Av(s:Wk):Bool:=match s.opens with |b::_=>b.loop|[]=>false
def Cq(s:Wk):Int:=match s.opens with |b::_=>b.par|[]=>0
def Az(c:Cd)(s:Wk)(i:Au)(r:Rw):Bool:=
 if i.op=34\/i.op=36 then !Av s&&decide (s.opens.length<64)
 else if i.op=35 then !s.opens.isEmpty&& !Av s
 else if i.op=37 then Av s
 else !Av s||(Cm i.op&&decide (Aw c.regs i r=⟨3,Cq s⟩))
def Al(i:Au)(r:Rw):List Int:=(if r.a=0 then [] else [i.a])++((if r.b=0 then [] else [i.b])++(if r.c=0 then [] else [i.c]))
def AM(s:Wk):Wk:=match s.opens with
 |b::r=>⟨if b.loop then s.set else s.set.take b.ahead,r⟩
 |[]=>s
def E8(s:Wk)(i:Au):Wk:=
 if i.op=34\/i.op=36 then⟨s.set,⟨i.op==36,i.n,s.set.length⟩::s.opens⟩else if i.op=35\/i.op=37 then AM s else s
def FJ(s:Wk)(i:Au)(r:Rw):Wk:=if r.d≠0/\i.d.toNat∉s.set then⟨s.set++[i.d.toNat],s.opens⟩else s
def Fk(s:Wk)(i:Au)(r:Rw):Wk:=FJ (E8 s i) i r
def G3(s:Wk)(i:Au)(r:Rw):Bool:=(Al i r).all fun n=>decide (n.toNat∈s.set)
def AQ(c:Cd)(s:Wk)(i:Au):Bool:=As i.op&&(Bu c i (A6 i.op)&&(Az c s i (A6 i.op)&&G3 s i (A6 i.op)))
def Aq(s:Wk)(i:Au):Wk:=Fk s i (A6 i.op)
def Jd(c:Cd):Wk->Nat->List Au->Int×Int
 |s,k,[]=>if s.opens.isEmpty then(0,0)else(160,k)
 |s,k,i::r=>if AQ c s i then Jd c (Aq s i) (k+1) r else(160,k)
def Am(c:Cd):Bool:=c.regs.all fun t=>At t c.sign.length
def Bi(c:Cd):Bool:=c.slots.all fun s=>AP s c.sign.length
def Cb(c:Cd):Int:=
 if AO c.sign≠0 then AO c.sign
 else if 16384<c.regs.length\/32768<c.list.length then 181
 else if 4096<c.slots.length then 180
 else if Am c&&Bi c then 0 else 160
def Ar(c:Cd):Int×Int:=if Cb c≠0 then(Cb c,-1)else Jd c ⟨[],[]⟩ 0 c.list
def Za:Nat->List Bk->Prop
 |_,[]=>True
 |n,b::r=>b.ahead<=n/\Za b.ahead r
theorem Za.mono:∀ {r:List Bk} {n m:Nat},Za n r->n<=m->Za m r
 |[],_,_,_,_=>trivial
 |b::r,n,m,h,k=>⟨Nat.le_trans h.1 k,h.2⟩
structure Dm(n:Nat)(s:Wk):Prop where
 nodup:s.set.Nodup
 lt:∀x∈s.set,x<n
 opens:Za s.set.length s.opens
 nest:s.opens.length<=64
theorem Dm.start(n:Nat):Dm n ⟨[],[]⟩:=⟨List.nodup_nil,fun x h=>absurd h sM,trivial,Nat.zero_le _⟩
theorem Dm.leave{n:Nat}{s:Wk}(h:Dm n s):Dm n (AM s):=by
 obtain⟨X,O⟩:=s;cases O with
 |nil=>exact h
 |cons b r=>
  obtain⟨h1,h2,⟨h3,h4⟩,h5⟩:=h;simp only[AM];simp only at h1 h2 h3 h4 h5;split
  ·exact⟨h1,h2,h4.mono h3,by simp at h5 ⊢;omega⟩
  ·refine⟨List.Sublist.nodup (List.take_sublist _ _) h1,fun x hx=>h2 x (List.mem_of_mem_take hx),?_,by simp at h5 ⊢;omega⟩;simp only[List.length_take];rw[Nat.min_eq_left h3];exact h4
theorem Dm.turn{n:Nat}{s:Wk}{i:Au}(h:Dm n s)(hm:i.op=34\/i.op=36->s.opens.length<64):Dm n (E8 s i):=by
 unfold E8;split
 ·rename_i e;exact⟨h.nodup,h.lt,⟨Nat.le_refl _,h.opens⟩,by have:=hm e;simp;omega⟩
 ·split
  ·exact h.leave
  ·exact h
theorem Dm.add{n:Nat}{s:Wk}{i:Au}{r:Rw}(h:Dm n s)(hd:r.d≠0->i.d.toNat<n):Dm n (FJ s i r):=by
 unfold FJ;split
 ·rename_i e;refine⟨?_,fun x hx=>?_,h.opens.mono sM,h.nest⟩
  ·rw[List.nodup_append];refine⟨h.nodup,sM,fun a ha b hb=>?_⟩;simp at hb;subst hb;exact fun e'=>e.2 (e'▸ha)
  ·rcases List.mem_append.1 hx with hx|hx
   ·exact h.lt x hx
   ·simp at hx;subst hx;exact hd e.1
 ·exact h
theorem TP:∀ {n:Nat} {l:List Nat},l.Nodup->(∀x∈l,x<n)->l.length<=n:=by
 intro n;induction n with
 |zero=>intro l _ h;cases l with
  |nil=>exact Nat.le_refl _
  |cons a t=>exact absurd (h a sM) (Nat.not_lt_zero _)
 |succ n ih=>
  intro l hd h;have h1:=ih (l:=l.erase n) (hd.erase n) fun x hx=>by
   have h2:=h x (List.mem_of_mem_erase hx);have h3:x≠n:=fun e=>by
    subst e;exact(List.Nodup.not_mem_erase hd) hx
   omega
  have h2:l.length<=(l.erase n).length+1:=by
   rw[List.length_erase];split<;>omega
  omega
theorem Dm.len{n:Nat}{s:Wk}(h:Dm n s):s.set.length<=n:=TP h.nodup h.lt
theorem C1{n:Int}{k:Nat}:Ak n k=true↔0<=n/\n<(k:Int):=by unfold Ak;simp
theorem Ae{rs:List Ty}{l n:Int}{m:Ty}(h:Ac rs l n m=true)(hl:l≠0):0<=n/\n<(rs.length:Int):=by
 unfold Ac at h;rw[if_neg hl]at h;simp only[Bool.and_eq_true]at h;exact C1.1 h.1
theorem DV{c:Cd}{i:Au}{r:Rw}(h:Bu c i r=true):Ac c.regs r.d i.d (Aw c.regs i r)=true:=by
 unfold Bu at h;simp only[Bool.and_eq_true]at h;exact h.1
theorem D1{c:Cd}{i:Au}{r:Rw}(h:Bu c i r=true):Ac c.regs r.a i.a (Aw c.regs i r)=true:=by
 unfold Bu at h;simp only[Bool.and_eq_true]at h;exact h.2.1
theorem Fw{c:Cd}{i:Au}{r:Rw}(h:Bu c i r=true):Ac c.regs r.b i.b (Aw c.regs i r)=true:=by
 unfold Bu at h;simp only[Bool.and_eq_true]at h;exact h.2.2.1
theorem Fx{c:Cd}{i:Au}{r:Rw}(h:Bu c i r=true):Ac c.regs r.c i.c (Aw c.regs i r)=true:=by
 unfold Bu at h;simp only[Bool.and_eq_true]at h;exact h.2.2.2.1
theorem AY{c:Cd}{s:Wk}{i:Au}(h:AQ c s i=true):As i.op=true/\Bu c i (A6 i.op)=true/\Az c s i (A6 i.op)=true/\G3 s i (A6 i.op)=true:=by
 unfold AQ at h;simp only[Bool.and_eq_true]at h;exact h
theorem G6{c:Cd}{s:Wk}{i:Au}{r:Rw}(h:Az c s i r=true)(e:i.op=34\/i.op=36):s.opens.length<64:=by
 unfold Az at h;rw[if_pos e]at h;simp only[Bool.and_eq_true,decide_eq_true_eq]at h;exact h.2
theorem Dm.step{c:Cd}{s:Wk}{i:Au}(h:Dm c.regs.length s)(t:AQ c s i=true):Dm c.regs.length (Aq s i):=by
 obtain⟨_,h2,h3,_⟩:=AY t;refine(h.turn (G6 h3)).add fun hd=>?_;have:=Ae (DV h2) hd;omega
theorem RD(a:Int)(h0:0<=a)(h1:a<4294967296)(w:World):
 Calls prog 158 #[.int .u32 a] w fun e w'=>e=.returned (.tuple #[.bool (decide (2147483648<=a)),.int .i64 (a/8388608%256),.int .i64 (a%8388608)])/\w'=w:=by
 exact Zeo
theorem Jy(a:Int)(h0:0<=a)(h1:a<4294967296)(w:World):
 Calls prog 134 #[.int .u32 a] w fun e w'=>e=.returned (.int .i64 (DA a))/\w'=w:=by
 by_cases c1:a/8388608%256=255
 ·by_cases c2:a%8388608=0
  ·have hc:DA a=4:=by unfold DA;rw[if_pos c1,if_pos c2]
   exact ZU
  ·have hc:DA a=5:=by unfold DA;rw[if_pos c1,if_neg c2]
   exact ZU
 ·by_cases c2:a/8388608%256=0
  ·by_cases c3:a%8388608=0
   ·have hc:DA a=1:=by unfold DA;rw[if_neg c1,if_pos c2,if_pos c3]
    exact ZU
   ·have hc:DA a=2:=by unfold DA;rw[if_neg c1,if_pos c2,if_neg c3]
    exact ZU
  ·have hc:DA a=3:=by unfold DA;rw[if_neg c1,if_neg c2]
   exact ZU
theorem QI(a:Int)(h0:0<=a)(h1:a<4294967296)(hn:nan a=true)(w:World):
 Calls prog 134 #[.int .u32 a] w fun e w'=>e=.returned (.int .i64 5)/\w'=w:=by
 have:=Jy a h0 h1 w;rwa[Po a hn h0 h1]at this
theorem QG(a:Int)(h0:0<=a)(h1:a<4294967296)(w:World):
 Calls prog 101 #[.int .u32 a] w fun e w'=>e=.returned (.int .u32 (canon a))/\w'=w:=by
 cases hn:nan a
 ·have hc:canon a=a:=by unfold canon;simp[hn]
  have h5:(DA a==5)=false:=by have:=Pp a hn h0 h1;simpa using this
  rw[hc];clear hc hn;go_enter func101,ntmps101;go_wp2_with(go_at_call 134;refine(Jy _ h0 h1 _).mono ?_;rintro e w' ⟨rfl,rfl⟩);go_ret;exact⟨rfl,rfl⟩
 ·have hc:canon a=2143289344:=by unfold canon;simp[hn]
  rw[hc];clear hc;go_enter func101,ntmps101;go_wp2_with(go_at_call 134;refine(QI _ h0 h1 hn _).mono ?_;rintro e w' ⟨rfl,rfl⟩);go_ret;exact⟨rfl,rfl⟩
def Nh(t:Ty):List Value:=[.int .i64 t.kind,.int .i64 t.par]
def LL(s:Sl):List Value:=[.int .i64 s.ty.kind,.int .i64 s.ty.par,.bool s.keep,.int .u32 s.bits,.int .i64 s.int_]
def DP(i:Au):List Value:=[.int .i64 i.op,.int .i64 i.d,.int .i64 i.a,.int .i64 i.b,.int .i64 i.c,.int .i64 i.n,.int .u32 i.bits]
theorem LU(t:Ty):(Nh t).length=2:=rfl
theorem Qp(t:Sl):(LL t).length=5:=rfl
theorem I6(t:Au):(DP t).length=7:=rfl
theorem MD(t:BO):(AW t).length=3:=rfl
def Dp(t:Ty):Value:=.agg #[.int .i64 t.kind,.int .i64 t.par]
def Dh(r:Rw):Value:=.agg #[.int .i64 r.d,.int .i64 r.a,.int .i64 r.b,.int .i64 r.c,.int .i64 r.n]
theorem kc{w w':World}(k:Below w.heap.size w w'){a:Addr}{v:Value}(h:w.cell? a=some v):w'.cell? a=some v:=(k.cell (A3 h)).trans h
theorem kf{w w':World}(k:Below w.heap.size w w'){a:Addr}{v:Value}(h:w.cell? a=some v)(f:w.frozen? a=false):w'.frozen? a=false:=(k.frozen (A3 h)).trans f
def Aa(w:World)(b o:Nat)(cs:List Value):Prop:=∀j (h:j<cs.length),w.cell? ⟨b,o+j,none⟩=some cs[j]
theorem Aa.below{w w':World}{b o:Nat}{cs:List Value}(h:Aa w b o cs)(k:Below w.heap.size w w'):Aa w' b o cs:=fun j hj=>(k.cell (A3 (h j hj))).trans (h j hj)
theorem Aa.at{w:World}{b o:Nat}{cs:List Value}(h:Aa w b o cs)(j:Nat){v:Value}(e:cs[j]? =some v):w.cell? ⟨b,o+j,none⟩=some v:=by
 obtain⟨hj,e⟩:=List.getElem?_eq_some_iff.1 e;rw[h j hj,e]
theorem Aa.of_block{w w':World}{b o:Nat}{cs:List Value}(h:Aa w b o cs)(e:w'.heap[b]? =w.heap[b]?):Aa w' b o cs:=fun j hj=>(World.cell?_of_block e).trans (h j hj)
def B3{α:Type}(k:Nat)(f:α->List Value)(w:World)(v:Value)(l:List α):Prop:=
 ∃p c,v=.slice p l.length c/\(l=[]\/∃b o,p=some ⟨b,o,none⟩/\∀i (h:i<l.length),Aa w b (o+i*k) (f l[i]))
theorem B3.below{α:Type}{k:Nat}{f:α->List Value}{w w':World}{v:Value}{l:List α}(h:B3 k f w v l)(q:Below w.heap.size w w'):B3 k f w' v l:=by
 obtain⟨p,c,hv,h⟩:=h;exact⟨p,c,hv,h.imp id fun⟨b,o,hp,h⟩=>⟨b,o,hp,fun i hi=>(h i hi).below q⟩⟩
theorem B3.at{α:Type}{k:Nat}{f:α->List Value}{w:World}{p:Option Addr}{n c:Nat}{l:List α}(h:B3 k f w (.slice p n c) l){i:Nat}(hi:i<l.length):∃b o,p=some ⟨b,o,none⟩/\Aa w b (o+i*k) (f l[i]):=by
 obtain⟨p',c',hv,h⟩:=h;simp only[Value.slice.injEq]at hv;obtain⟨rfl,rfl,rfl⟩:=hv;rcases h with h|⟨b,o,hp,h⟩
 ·rw[h]at hi;exact absurd hi (Nat.not_lt_zero _)
 ·exact⟨b,o,hp,h i hi⟩
theorem B3.rd{w:World}{v:Value}{l:List BO}(h:B3 3 AW w v l):Rd w v l:=by
 obtain⟨p,c,hv,h⟩:=h;exact⟨p,c,hv,h.imp id fun⟨b,o,hp,h⟩=>⟨b,o,hp,fun i hi=>⟨(h i hi).at 0 rfl,(h i hi).at 1 rfl,(h i hi).at 2 rfl⟩⟩⟩
structure Di(w:World)(v0 v1 v2 v3:Value)(c:Cd):Prop where
 sign:B3 3 AW w v0 c.sign
 regs:B3 2 Nh w v1 c.regs
 slots:B3 5 LL w v2 c.slots
 list:B3 7 DP w v3 c.list
theorem Di.below{w w':World}{v0 v1 v2 v3:Value}{c:Cd}(h:Di w v0 v1 v2 v3 c)(k:Below w.heap.size w w'):Di w' v0 v1 v2 v3 c:=⟨h.sign.below k,h.regs.below k,h.slots.below k,h.list.below k⟩
def C0(w:World)(C:Nat)(v0 v1 v2 v3:Value)(c:Cd):Prop:=Aa w C 0 [v0,v1,v2,v3]/\Di w v0 v1 v2 v3 c
theorem C0.below{w w':World}{C:Nat}{v0 v1 v2 v3:Value}{c:Cd}(h:C0 w C v0 v1 v2 v3 c)(k:Below w.heap.size w w'):C0 w' C v0 v1 v2 v3 c:=⟨h.1.below k,h.2.below k⟩
structure B0(c:Cd):Prop where
 signL:c.sign.length<=140737488351232
 names:∀p∈c.sign,p.name.size<=140737488351232
 regsL:c.regs.length<=140737488351232
 slotsL:c.slots.length<=140737488351232
 listL:c.list.length<=140737488351232
 sbits:∀s∈c.slots,0<=s.bits/\s.bits<4294967296
 ibits:∀i∈c.list,0<=i.bits/\i.bits<4294967296
theorem Dd(n:Int)(k:Nat)(w:World):Calls prog 128 #[.int .i64 n,.int .i64 k] w fun e w'=>e=.returned (.bool (Ak n k))/\w'=w:=by
 unfold Ak;by_cases h:0<=n
 all_goals
  go_enter func128,ntmps128;exact Zdz
theorem Hi(n:Int)(w:World):Calls prog 129 #[.int .i64 n] w fun e w'=>e=.returned (.bool (CF n))/\w'=w:=by
 unfold CF;by_cases h:0<=n
 all_goals
  go_enter func129,ntmps129;exact Zdz
theorem Iz(a:Int)(h0:0<=a)(h1:a<4294967296)(w:World):Calls prog 130 #[.int .u32 a] w fun e w'=>e=.returned (.bool (Cj a))/\w'=w:=by
 have hc:Cj a=(canon a==a):=by unfold Cj canon;cases nan a<;>rw[Bool.eq_iff_iff]<;>simp
 rw[hc];have HK:Hid (∀w,Calls prog 101 #[.int .u32 a] w fun e w'=>e=.returned (.int .u32 (canon a))/\w'=w):=QG a h0 h1;clear hc;obtain⟨x,hx⟩:∃x,canon a=x:=⟨_,rfl⟩
 rw[hx]at HK ⊢;clear hx;go_enter func130,ntmps130;go_wp2_with(go_at_call 101;refine(HK.out _).mono ?_;rintro e w1 ⟨rfl,rfl⟩);go_ret;exact⟨rfl,rfl⟩
theorem FS(t:Ty)(p:Option Addr)(n c:Nat)(hn:n<=140737488351232)(w:World):Calls prog 90 #[Dp t,.slice p n c] w fun e w'=>e=.returned (.bool (At t n))/\Below w.heap.size w w':=by
 obtain⟨K,P⟩:=t;have HK:Hid (∀w,Calls prog 128 #[.int .i64 P,.int .i64 n] w fun e w'=>e=.returned (.bool (Ak P n))/\w'=w):=Dd P n;unfold At Dp;simp only;by_cases h1:K=1
 ·subst h1;rw[if_pos (Or.inl rfl)];exact Zep
 ·by_cases h2:K=2
  ·subst h2;rw[if_pos (Or.inr rfl)];exact Zep
  ·rw[if_neg (fun e=>e.elim h1 h2)];have h1':(K==1)=false:=by simpa using h1
   have h2':(K==2)=false:=by simpa using h2
   by_cases h3:K=3
   ·subst h3;rw[if_pos rfl];go_enter func90,ntmps90;exact Zfk
   ·rw[if_neg h3];have h3':(K==3)=false:=by simpa using h3
    clear h1 h2 h3;exact Zep
def Se(s:Sl):Value:=.agg #[.int .i64 s.ty.kind,.int .i64 s.ty.par,.bool s.keep,.int .u32 s.bits,.int .i64 s.int_]
theorem NA(s:Sl)(h0:0<=s.bits)(h1:s.bits<4294967296)(w:World):Calls prog 91 #[Se s] w fun e w'=>e=.returned (.bool (Ed s))/\Below w.heap.size w w':=by
 have HK:Hid (∀w,Calls prog 130 #[.int .u32 s.bits] w fun e w'=>e=.returned (.bool (Cj s.bits))/\w'=w):=Iz s.bits h0 h1;have HL:Hid (∀w,Calls prog 129 #[.int .i64 s.int_] w fun e w'=>e=.returned (.bool (CF s.int_))/\w'=w):=Hi s.int_;obtain⟨⟨K,P⟩,Q,B,I⟩:=s;unfold Ed Se;simp only at HK HL h0 h1 ⊢;obtain⟨X,hX⟩:∃X,Cj B=X:=⟨_,rfl⟩
 obtain⟨Y,hY⟩:∃Y,CF I=Y:=⟨_,rfl⟩
 rw[hX]at HK ⊢;rw[hY]at HL ⊢;clear hX hY;by_cases h2:K=2
 ·subst h2;rw[if_pos rfl];cases hb:(B==0)
  all_goals
   go_enter func91,ntmps91;go_wp2_with(go_at_call 129;refine(HL.out _).mono ?_;rintro e w1 ⟨rfl,rfl⟩);go_ret;exact⟨A7 (by simp[hb]),A0 _ _⟩
 ·rw[if_neg h2];have h2':(K==2)=false:=by simpa using h2
  clear h2;cases hb:(I==0)
  all_goals
   go_enter func91,ntmps91;go_wp2_with(go_at_call 130;refine(HK.out _).mono ?_;rintro e w1 ⟨rfl,rfl⟩);go_ret;exact⟨A7 (by simp[hb]),A0 _ _⟩
theorem VA(K P L Q:Int):decide ((⟨K,P⟩:Ty)=⟨L,Q⟩)=(K==L&&P==Q):=by
 rw[Bool.eq_iff_iff];simp
theorem Rp(l:Int)(t m:Ty)(w:World):Calls prog 131 #[.int .i64 l,Dp t,Dp m] w fun e w'=>e=.returned (.bool (B5 l t m))/\Below w.heap.size w w':=by
 obtain⟨K,P⟩:=t;obtain⟨L,Q⟩:=m;unfold B5 Dp;simp only[VA];by_cases h1:l=1
 ·subst h1;rw[if_pos rfl];go_enter func131,ntmps131;go_wp2;go_ret;exact SC
 rw[if_neg h1];by_cases h2:l=2
 ·subst h2;rw[if_pos rfl];clear h1;go_enter func131,ntmps131;go_wp2;go_ret;exact SC
 rw[if_neg h2];by_cases h3:l=3
 ·subst h3;rw[if_pos rfl];clear h1 h2;go_enter func131,ntmps131;go_wp2;go_ret;exact SC
 rw[if_neg h3];by_cases h4:l=4
 ·subst h4;rw[if_pos rfl];clear h1 h2 h3;cases hk:(K==1)
  all_goals
   go_enter func131,ntmps131;go_wp2;go_ret;exact⟨A7 (by simp[hk]),bel (A0 _ _) (A0 _ _)⟩
 rw[if_neg h4];by_cases h5:l=5
 ·subst h5;rw[if_pos rfl];clear h1 h2 h3 h4;cases hk:(K==1)<;>cases hl:(K==L)<;>cases hq:(P==Q)
  all_goals
   go_enter func131,ntmps131;go_wp2;go_ret;exact⟨A7 (by simp[hk,hl,hq]),bel (A0 _ _) (A0 _ _)⟩
 rw[if_neg h5];have h1':(l==1)=false:=by simpa using h1
 have h2':(l==2)=false:=by simpa using h2
 have h3':(l==3)=false:=by simpa using h3
 have h4':(l==4)=false:=by simpa using h4
 have h5':(l==5)=false:=by simpa using h5
 clear h1 h2 h3 h4 h5;go_enter func131,ntmps131;go_wp2
 all_goals
  go_ret;exact⟨A7 (by simp[*]),bel (A0 _ _) (A0 _ _)⟩
theorem EP{l:List Ty}{n:Int}{k:Nat}(h:n=(k:Int))(hk:k<l.length):A8 l n=l[k]:=by
 subst h;unfold A8;rw[if_pos (C1.2 ⟨oM,oM⟩),Int.toNat_natCast,List.getElem?_eq_getElem hk];rfl
theorem CZ{n:Int}{k:Nat}(h:Ak n k=true):∃m:Nat,n=(m:Int)/\m<k:=by
 obtain⟨h0,h1⟩:=C1.1 h;exact⟨n.toNat,oM,oM⟩
theorem C8(C:Nat)(v0 v1 v2 v3:Value)(c:Cd)(hk:B0 c)(l n:Int)(m:Ty)(w:World)(hc:C0 w C v0 v1 v2 v3 c):
 Calls prog 94 #[.pointer (some ⟨C,0,none⟩),.int .i64 l,.int .i64 n,Dp m] w fun e w'=>e=.returned (.bool (Ac c.regs l n m))/\Below w.heap.size w w':=by
 unfold Ac;by_cases h0:l=0
 ·subst h0;rw[if_pos rfl];unfold Dp;go_enter func94,ntmps94;go_wp2;go_ret;exact⟨rfl,A0 _ _⟩
 rw[if_neg h0];have h0':(l==0)=false:=by simpa using h0
 clear h0;have HB:=hk.regsL;have K1:=Dd n c.regs.length;obtain⟨hcc,hcv⟩:=hc;have c1:=hcc.at 1 rfl;rw[Nat.zero_add]at c1;have hr:=hcv.regs;obtain⟨p,q,rfl,hrr⟩:=hcv.regs;have HN:Hid (c.regs.length=c.regs.length):=rfl;obtain⟨X,hX⟩:∃X,Ak n c.regs.length=X:=⟨_,rfl⟩
 simp only[hX]at K1;rw[hX];have hC:=A3 c1;simp only at hC;cases X
 ·clear hr hrr hcc hcv;obtain⟨N,hN⟩:∃N,c.regs.length=N:=⟨_,rfl⟩
  rw[hN]at K1 c1 HB;have HK:Hid (∀w,Calls prog 128 #[.int .i64 n,.int .i64 N] w fun e w'=>e=.returned (.bool false)/\w'=w):=K1;clear hN K1 hX HN;obtain⟨A,B⟩:=m;unfold Dp;go_enter func94,ntmps94;go_wp2;have hC':C≠w.heap.size:=oM;refine rG (fun v=>v.cell? ⟨C,1,none⟩=some (.slice p N q)) fun hHeld=>?_;exact Zck
 ·obtain⟨k,hnk,hkl⟩:=CZ hX;rw[EP hnk hkl];have hti:c.regs[k]=c.regs[k]:=rfl;obtain⟨b,o,hp,hx⟩:=hr.at hkl;subst hp;subst hnk;have x0:=hx.at 0 rfl;have x1:=hx.at 1 rfl;rw[Nat.add_zero]at x0;have hbl:=A3 x0;simp only at hbl;have K2:=Rp l c.regs[k] m;obtain⟨T,hT⟩:∃T,c.regs[k]=T:=⟨_,rfl⟩
  rw[hT]at x0 x1 K2 ⊢;obtain⟨N,hN⟩:∃N,c.regs.length=N:=⟨_,rfl⟩
  rw[hN]at K1 c1 HB hkl;have HK:Hid (∀w,Calls prog 128 #[.int .i64 (k:Int),.int .i64 N] w fun e w'=>e=.returned (.bool true)/\w'=w):=K1;clear hN K1 hX HN hr hrr hcc hcv hx hti hT;obtain⟨A,B⟩:=m;obtain⟨D,E⟩:=T;unfold Dp at K2 ⊢;simp only at x0 x1 K2 ⊢;obtain⟨Y,hY⟩:∃Y,B5 l ⟨D,E⟩ ⟨A,B⟩=Y:=⟨_,rfl⟩
  rw[hY]at K2 ⊢;have HM:Hid (∀w,Calls prog 131 #[.int .i64 l,.agg #[.int .i64 D,.int .i64 E],.agg #[.int .i64 A,.int .i64 B]] w fun e w'=>e=.returned (.bool Y)/\Below w.heap.size w w'):=K2;clear K2 hY;have i1:(0:Int)<=(k:Int):=oM;have i2:(k:Int)<(N:Int):=oM;have hC':C≠w.heap.size:=oM;have hb':b≠w.heap.size:=oM;have HC:Hid (∀v,Below (w.alloc (.cells #[.int .i64 A,.int .i64 B] 69)).heap.size (w.alloc (.cells #[.int .i64 A,.int .i64 B] 69)) v->v.cell? ⟨C,1,none⟩=some (.slice (some ⟨b,o,none⟩) N q)/\v.cell? ⟨b,o+k*2,none⟩=some (.int .i64 D)/\v.cell? ⟨b,o+k*2+1,none⟩=some (.int .i64 E)/\v.cell? ⟨w.heap.size,0,none⟩=some (.int .i64 A)/\v.cell? ⟨w.heap.size,1,none⟩=some (.int .i64 B)):=
   fun v hv=>⟨kc hv (kc (A0 _ _) c1),kc hv (kc (A0 _ _) x0),kc hv (kc (A0 _ _) x1),kc hv sG,kc hv sG⟩
  go_enter func94,ntmps94;go_wp2;refine rG (fun v=>v.cell? ⟨C,1,none⟩=some (.slice (some ⟨b,o,none⟩) N q)/\v.cell? ⟨b,o+k*2,none⟩=some (.int .i64 D)/\v.cell? ⟨b,o+k*2+1,none⟩=some (.int .i64 E)/\v.cell? ⟨w.heap.size,0,none⟩=some (.int .i64 A)/\v.cell? ⟨w.heap.size,1,none⟩=some (.int .i64 B)) fun hHeld=>?_;refine Tf 0 1 2 3 4 5 ?_;clear hHeld;refine Ao 6 fun K hK=>?_;go_simp;(go_at_call 128;refine(HK.out _).mono ?_;rintro e w1 ⟨rfl,rfl⟩);try(go_wp2_with fail)
  refine An hK fun hHeld=>?_;clear hK K;refine Tf 7 8 9 10 11 12 ?_;refine Tc 13 14 15 ?_;refine AI 16 ?_;clear hHeld;refine Ao 17 fun K hK=>?_;go_simp;(go_at_call 131;refine(HM.out _).mono ?_;rintro e w1 ⟨rfl,hb1⟩;have HB1:=bel (A5 _) hb1;obtain⟨y0,y1,y2,y3,y4⟩:=HC.out w1 HB1);try(go_wp2_with fail)
  refine An hK fun hHeld=>?_;clear hK K;refine Tb 18 19 ?_;refine wpAnyH_done kR ?_ _;go_wp2;go_ret;exact⟨sM,bel (A0 _ _) HB1⟩
theorem Jh(C:Nat)(p:Option Addr)(N q:Nat)(l:List Ty)(b o:Nat)(i:Au)(r:Rw)(w:World)(hN:l.length=N)(c1:w.cell? ⟨C,1,none⟩=some (.slice p N q))(hr:B3 2 Nh w (.slice p N q) l)(hB:N<=140737488351232)(hi:Aa w b o (DP i)):
 Calls prog 92 #[.pointer (some ⟨C,0,none⟩),.pointer (some ⟨b,o,none⟩),Dh r] w fun e w'=>e=.returned (Dp (Aw l i r))/\Below w.heap.size w w':=by
 unfold Aw EY;have e1:=hi.at 1 rfl;have e2:=hi.at 2 rfl;have hC:=A3 c1;have hb:=A3 e1;simp only at hC hb;have n1:C≠w.heap.size:=oM;have n2:C≠w.heap.size+1:=oM;have n3:b≠w.heap.size:=oM;have n4:b≠w.heap.size+1:=oM;clear hi hC hb;obtain⟨D,A,B,X,Y⟩:=r;unfold Dh;simp only;have HA:Hid (∀a v,w.cell? a=some v->((w.alloc (.cells #[.int .i64 D,.int .i64 A,.int .i64 B,.int .i64 X,.int .i64 Y] 134)).alloc (.cells #[.int .i64 0,.int .i64 0] 69)).cell? a=some v):=fun a v h=>kc (A0 _ _) (kc (A0 _ _) h);obtain⟨x,hx⟩:∃x,(if D=0 then i.a else i.d)=x:=⟨_,rfl⟩
 rw[hx];have K1:=Dd x N;have HX:Hid ((D=0/\x=i.a)\/(D≠0/\x=i.d)):=by
  show _\/_;by_cases h:D=0
  ·rw[if_pos h]at hx;exact .inl ⟨h,hx.symm⟩
  ·rw[if_neg h]at hx;exact .inr ⟨h,hx.symm⟩
 clear hx;obtain⟨P,hP⟩:∃P,Ak x N=P:=⟨_,rfl⟩
 simp only[hP]at K1;have HK:Hid (∀w,Calls prog 128 #[.int .i64 x,.int .i64 N] w fun e w'=>e=.returned (.bool P)/\w'=w):=K1;clear K1;cases P
 ·have HT:Hid (A8 l x=⟨0,0⟩):=by show _=_;unfold A8;rw[hN,hP];rfl
  clear hP hr;rcases HX.out with⟨rfl,rfl⟩|⟨hD,rfl⟩
  ·clear HX;have f1:=HA.out _ _ e1;have f2:=HA.out _ _ e2;have f3:=HA.out _ _ c1;exact Zbn
  ·clear HX;have hD':(D==0)=false:=by simpa using hD
   clear hD;have f1:=HA.out _ _ e1;have f2:=HA.out _ _ e2;have f3:=HA.out _ _ c1;exact Zbn
 ·obtain⟨k,hxk,hk⟩:=CZ hP;have hkl:k<l.length:=oM;have HT:Hid (A8 l x=l[k]):=EP hxk hkl;obtain⟨g,u,hp,hx⟩:=hr.at hkl;subst hp;have x0:=hx.at 0 rfl;have x1:=hx.at 1 rfl;rw[Nat.add_zero]at x0;obtain⟨T,hT⟩:∃T,l[k]=T:=⟨_,rfl⟩
  rw[hT]at x0 x1 HT;obtain⟨E,G⟩:=T;simp only at x0 x1;have hg:=A3 x0;simp only at hg;have n5:g≠w.heap.size:=oM;have n6:g≠w.heap.size+1:=oM;have i1:(0:Int)<=(k:Int):=oM;have i2:(k:Int)<(N:Int):=oM;clear hP hr hx hT hg hN hkl;rcases HX.out with⟨rfl,hv⟩|⟨hD,hv⟩
  ·clear HX;rw[←hv,hxk]at e2;rw[hxk]at HK HT ⊢;clear hv hxk;have f1:=HA.out _ _ e1;have f2:=HA.out _ _ e2;have f3:=HA.out _ _ c1;have f4:=HA.out _ _ x0;have f5:=HA.out _ _ x1;exact Zbn
  ·clear HX;have hD':(D==0)=false:=by simpa using hD
   rw[←hv,hxk]at e1;rw[hxk]at HK HT ⊢;clear hD hv hxk;have f1:=HA.out _ _ e1;have f2:=HA.out _ _ e2;have f3:=HA.out _ _ c1;have f4:=HA.out _ _ x0;have f5:=HA.out _ _ x1;exact Zbn
theorem Gj(C:Nat)(v0 v1 v2 v3:Value)(c:Cd)(hk:B0 c)(b o:Nat)(i:Au)(r:Rw)(w:World)(hc:C0 w C v0 v1 v2 v3 c)(hi:Aa w b o (DP i)):
 Calls prog 92 #[.pointer (some ⟨C,0,none⟩),.pointer (some ⟨b,o,none⟩),Dh r] w fun e w'=>e=.returned (Dp (Aw c.regs i r))/\Below w.heap.size w w':=by
 obtain⟨hcc,hcv⟩:=hc;have c1:=hcc.at 1 rfl;rw[Nat.zero_add]at c1;have hr:=hcv.regs;obtain⟨p,q,rfl,hrr⟩:=hcv.regs;exact Jh C p _ q c.regs b o i r w rfl c1 hr hk.regsL hi
def V(p k:Nat):Nat:=if k<2^p then k else(2^p+k%2^p)*2^(k/2^p-1)
theorem Ef(p t k:Nat)(h:k<=2*2^p)(h':t=0\/2^p<=k):V p (t*2^p+k)=k*2^t:=by
 unfold V;have hB:0<2^p:=Nat.two_pow_pos p;generalize 2^p=B at *;rcases Nat.lt_or_ge k B with c|c
 ·have:t=0:=oM;subst this;simp[c]
 ·have hge:¬ (t*B+k<B):=by have:=Nat.zero_le (t*B);omega
  rw[if_neg hge];rcases Nat.lt_or_ge k (2*B)with c2|c2
  ·have e1:(t*B+k)%B=k-B:=by
    have:t*B+k=(k-B)+B*(t+1):=by rw[Nat.mul_add,Nat.mul_comm];omega
    rw[this,Nat.add_mul_mod_self_left,Nat.mod_eq_of_lt oM]
   have e2:(t*B+k)/B=t+1:=by
    have:t*B+k=(k-B)+B*(t+1):=by rw[Nat.mul_add,Nat.mul_comm];omega
    rw[this,Nat.add_mul_div_left _ _ hB,Nat.div_eq_of_lt oM];omega
   rw[e1,e2,show B+(k-B)=k by omega,Nat.add_sub_cancel]
  ·have hk:k=2*B:=oM;subst hk;have e0:t*B+2*B=0+B*(t+2):=by rw[Nat.mul_add,Nat.mul_comm];omega
   rw[e0,Nat.add_mul_mod_self_left,Nat.add_mul_div_left _ _ hB,Nat.zero_mod,Nat.zero_div];rw[show 0+(t+2)-1=t+1 by omega,Nat.pow_succ]
   grind
theorem G4(p r:Nat):∃t k,r=t*2^p+k/\k<2*2^p/\(t=0\/2^p<=k)/\t=r/2^p-1:=by
 have hB:0<2^p:=Nat.two_pow_pos p;generalize 2^p=B at *;have hd:=Nat.div_add_mod r B;have hm:=Nat.mod_lt r hB;rcases Nat.lt_or_ge r B with c|c
 ·exact⟨0,r,oM,oM,Or.inl rfl,by rw[Nat.div_eq_of_lt c]⟩
 ·have:1<=r/B:=(Nat.le_div_iff_mul_le hB).2 oM;obtain⟨t,ht⟩:∃t,r/B=t+1:=⟨r/B-1,oM⟩
  refine⟨t,B+r%B,?_,oM,Or.inr oM,oM⟩;rw[ht,Nat.mul_add,Nat.mul_comm]at hd;omega
theorem GP(p r:Nat):V p (r+1)=V p r+2^(r/2^p-1):=by
 obtain⟨t,k,hr,hk,h,ht⟩:=G4 p r;have e1:V p r=k*2^t:=by rw[hr];exact Ef p t k oM h
 have e2:V p (r+1)=(k+1)*2^t:=by rw[hr,Nat.add_assoc];exact Ef p t (k+1) oM oM
 rw[e1,e2,←ht,Nat.add_mul,Nat.one_mul]
theorem GO(p r:Nat):V p r<V p (r+1):=by
 rw[GP];have:=Nat.two_pow_pos (r/2^p-1);omega
theorem F1(p:Nat){r s:Nat}(h:r<s):V p r<V p s:=by
 induction s with
 |zero=>omega
 |succ s ih=>
  rcases Nat.lt_or_ge r s with c|c
  ·exact Nat.lt_trans (ih c) (GO p s)
  ·have:r=s:=oM;subst this;exact GO p r
theorem LV(p:Nat){r s:Nat}(h:r<=s):V p r<=V p s:=by
 rcases Nat.lt_or_eq_of_le h with c|c
 ·exact Nat.le_of_lt (F1 p c)
 ·rw[c];exact Nat.le_refl _
theorem LX(p r s:Nat):V p r<V p s↔r<s:=by
 constructor
 ·intro h;rcases Nat.lt_or_ge r s with c|c
  ·exact c
  ·have:=LV p c;omega
 ·exact F1 p
theorem Sz(p:Nat){r s:Nat}(h:V p r=V p s):r=s:=by
 rcases Nat.lt_trichotomy r s with c|c|c
 ·have:=F1 p c;omega
 ·exact c
 ·have:=F1 p c;omega
theorem F8(p:Nat):V p 0=0:=by
 have hB:0<2^p:=Nat.two_pow_pos p;simp[V,hB]
structure F6(p n d r:Nat):Prop where
 up:2*n<=(V p r+V p (r+1))*d
 ue:2*n=(V p r+V p (r+1))*d->r%2=0
 dn:∀q,r=q+1->(V p q+V p r)*d<=2*n
 de:∀q,r=q+1->(V p q+V p r)*d=2*n->r%2=0
theorem F6.mono{p n d r n' d' r':Nat}(h:F6 p n d r)(h':F6 p n' d' r')(hd:0<d)(hd':0<d')(hn:n*d'<=n'*d):r<=r':=by
 rcases Nat.lt_or_ge r' r with c|c
 ·exfalso;obtain⟨q,hq⟩:∃q,r=q+1:=⟨r-1,oM⟩
  have a1:=h.dn q hq;have a2:=h'.up;have b1:V p r'+V p (r'+1)<=V p q+V p r:=by
   have:=LV p (show r'<=q by omega);have:=LV p (show r'+1<=r by omega);omega
  have k1:(V p q+V p r)*(d*d')<=2*n*d':=by
   rw[←Nat.mul_assoc];exact Nat.mul_le_mul_right _ a1
  have k2:2*n'*d<=(V p r'+V p (r'+1))*(d*d'):=by
   have:=Nat.mul_le_mul_right d a2;rw[Nat.mul_comm d d',←Nat.mul_assoc];exact this
  have k3:2*n*d'<=2*n'*d:=by
   rw[Nat.mul_assoc,Nat.mul_assoc];exact Nat.mul_le_mul_left _ hn
  have k4:(V p r'+V p (r'+1))*(d*d')<=(V p q+V p r)*(d*d'):=Nat.mul_le_mul_right _ b1;have hdd:0<d*d':=Nat.mul_pos hd hd';have e4:(V p r'+V p (r'+1))*(d*d')=(V p q+V p r)*(d*d'):=oM;have e5:=Nat.eq_of_mul_eq_mul_right hdd e4;have hqr:r'=q:=by
   rcases Nat.lt_or_ge r' q with c2|c2
   ·have:=F1 p c2;have:=LV p (show r'+1<=r by omega);omega
   ·omega
  have e6:(V p q+V p r)*d*d'=2*n*d':=by rw[Nat.mul_assoc];omega
  have e7:2*n'*d=(V p r'+V p (r'+1))*d'*d:=by rw[Nat.mul_assoc _ d' d,Nat.mul_comm d' d];omega
  have p1:=h.de q hq (Nat.eq_of_mul_eq_mul_right hd' e6);have p2:=h'.ue (Nat.eq_of_mul_eq_mul_right hd e7);omega
 ·exact c
theorem F6.unique{p n d r n' d' r':Nat}(h:F6 p n d r)(h':F6 p n' d' r')(hd:0<d)(hd':0<d')(hn:n*d'=n'*d):r=r':=
 Nat.le_antisymm (h.mono h' hd hd' oM) (h'.mono h hd' hd oM)
theorem IE(p r d:Nat)(hd:0<d):F6 p (V p r*d) d r:=by
 have s1:=GO p r;refine⟨?_,?_,?_,?_⟩
 ·rw[←Nat.mul_assoc];exact Nat.mul_le_mul_right _ oM
 ·intro h;rw[←Nat.mul_assoc]at h;have:=Nat.eq_of_mul_eq_mul_right hd h;omega
 ·intro q hq;rw[←Nat.mul_assoc];have:=F1 p (show q<r by omega);exact Nat.mul_le_mul_right _ oM
 ·intro q hq h;rw[←Nat.mul_assoc]at h;have:=Nat.eq_of_mul_eq_mul_right hd h;have:=F1 p (show q<r by omega);omega
structure VV(n d k t:Nat):Prop where
 up:2*n<=(2*k+1)*2^t*d
 ue:2*n=(2*k+1)*2^t*d->k%2=0
 dn:2*k*2^t*d<=2*n+2^t*d
 de:2*k*2^t*d=2*n+2^t*d->k%2=0
theorem VV.near{p n d k t:Nat}(h:VV n d k t)(hd:0<d)(hp:1<=p)(hr:t=0\/2^p*2^t*d<=n)(hu:n<2*2^p*2^t*d):
 F6 p n d (t*2^p+k)/\k<=2*2^p/\(t=0\/2^p<=k):=by
 have hT:0<2^t:=Nat.two_pow_pos t;have hB2:2^p%2=0:=by
  obtain⟨q,rfl⟩:∃q,p=q+1:=⟨p-1,oM⟩
  rw[Nat.pow_succ];omega
 have hB:0<2^p:=Nat.two_pow_pos p;have hTd:0<2^t*d:=Nat.mul_pos hT hd;have up:=h.up;have ue:=h.ue;have dn:=h.dn;have de:=h.de;simp only[Nat.mul_assoc]at up ue dn de hr hu;have kle:k<=2*2^p:=by
  rcases Nat.lt_or_ge (2*2^p) k with c|c
  ·exfalso;have:(2*(2*2^p)+2)*(2^t*d)<=2*k*(2^t*d):=Nat.mul_le_mul_right _ oM;rw[Nat.mul_assoc 2 k]at this;rw[Nat.add_mul]at this;generalize 2^t*d=u at *;simp only[Nat.mul_assoc]at this;omega
  ·exact c
 have kge:t=0\/2^p<=k:=by
  rcases hr with c|c
  ·exact Or.inl c
  ·right;rcases Nat.lt_or_ge k (2^p)with c2|c2
   ·exfalso;have:(2*k+1)*(2^t*d)<=(2*2^p-1)*(2^t*d):=Nat.mul_le_mul_right _ oM;rw[Nat.sub_mul]at this;generalize 2^t*d=u at *;simp only[Nat.mul_assoc]at this;have h3:0<2^p*u:=Nat.mul_pos hB hTd;omega
   ·exact c2
 refine⟨?_,kle,kge⟩;have par:(t*2^p+k)%2=k%2:=by
  have:(t*2^p)%2=0:=by rw[Nat.mul_mod,hB2,Nat.mul_zero,Nat.zero_mod]
  omega
 have vr:V p (t*2^p+k)=k*2^t:=Ef p t k kle kge;have vs:=GP p (t*2^p+k);have sge:2^t<=2^((t*2^p+k)/2^p-1):=by
  exact Zes
 have seq:k<2*2^p->V p (t*2^p+k+1)=(k+1)*2^t:=by
  intro c;rw[Nat.add_assoc];exact Ef p t (k+1) oM oM
 have vs2:(k+1)*2^t<=V p (t*2^p+k+1):=by rw[vs,vr,Nat.add_mul];omega
 have upper:(2*k+1)*(2^t*d)<=(V p (t*2^p+k)+V p (t*2^p+k+1))*d:=by
  rw[←Nat.mul_assoc];apply Nat.mul_le_mul_right;rw[vr];have:(2*k+1)*2^t=k*2^t+(k+1)*2^t:=by rw[←Nat.add_mul];congr 1;omega
  omega
 refine⟨oM,?_,?_,?_⟩
 ·intro e;rw[par];exact ue oM
 ·intro q hq;have hk0:k≠0:=by
   intro k0;subst k0;rcases kge with c|c
   ·subst c;omega
   ·omega
  obtain⟨j,rfl⟩:∃j,k=j+1:=⟨k-1,oM⟩
  have hqj:q=t*2^p+j:=oM;rcases kge with c|c
  ·subst c;have:V p q=j*2^0:=by rw[hqj];exact Ef p 0 j oM (Or.inl rfl)
   rw[vr,this];exact Zcz
  ·rcases Nat.lt_or_ge j (2^p)with c2|c2
   ·--the lowest of a binade:the number is not below
    have hk:j+1=2^p:=oM;rcases hr with c3|c3
    ·subst c3;have:V p q=j*2^0:=by rw[hqj];exact Ef p 0 j oM (Or.inl rfl)
     rw[vr,this];exact Zcz
    ·have:=F1 p (show q<t*2^p+(j+1) by omega);have l:(V p q+V p (t*2^p+(j+1)))*d<=(2*(2^p*2^t))*d:=by
      apply Nat.mul_le_mul_right;rw[vr,hk]at *;omega
     simp only[Nat.mul_assoc]at l;omega
   ·have:V p q=j*2^t:=by rw[hqj];exact Ef p t j oM (Or.inr c2)
    rw[vr,this];exact Zfl
 ·intro q hq e;rw[par];have hk0:k≠0:=by
   intro k0;subst k0;rcases kge with c|c
   ·subst c;omega
   ·omega
  obtain⟨j,rfl⟩:∃j,k=j+1:=⟨k-1,oM⟩
  have hqj:q=t*2^p+j:=oM;rcases Nat.lt_or_ge j (2^p)with c2|c2
  ·rcases hr with c3|c3
   ·subst c3;have:V p q=j*2^0:=by rw[hqj];exact Ef p 0 j oM (Or.inl rfl)
    rw[vr,this]at e;apply de;exact Zcz
   ·rcases kge with c4|c4
    ·subst c4;have:V p q=j*2^0:=by rw[hqj];exact Ef p 0 j oM (Or.inl rfl)
     rw[vr,this]at e;apply de;exact Zcz
    ·exfalso;have hk:j+1=2^p:=oM;have:=F1 p (show q<t*2^p+(j+1) by omega);have l:(V p q+V p (t*2^p+(j+1))+1)*d<=(2*(2^p*2^t))*d:=by
      apply Nat.mul_le_mul_right;rw[vr,hk]at *;omega
     rw[Nat.add_mul]at l;simp only[Nat.mul_assoc]at l;omega
  ·have:V p q=j*2^t:=by rw[hqj];exact Ef p t j oM (Or.inr c2)
   rw[vr,this]at e;apply de;exact Zfl
theorem VV.scale{n k u:Nat}(h:VV n 1 k u)(b s t:Nat)(e:u+b=t+s):VV (n*2^b) (2^s) k t:=by
 have up:=h.up;have ue:=h.ue;have dn:=h.dn;have de:=h.de;simp only[Nat.mul_one]at up ue dn de;have hb:0<2^b:=Nat.two_pow_pos b;have ets:∀x:Nat,x*2^t*2^s=x*2^u*2^b:=by
  intro x;rw[Nat.mul_assoc,Nat.mul_assoc,←Nat.pow_add,←Nat.pow_add,e]
 have ets1:2^t*2^s=2^u*2^b:=by rw[←Nat.pow_add,←Nat.pow_add,e]
 refine⟨?_,?_,?_,?_⟩
 ·rw[ets,←Nat.mul_assoc];exact Nat.mul_le_mul_right _ up
 ·rw[ets,←Nat.mul_assoc];intro h;exact ue (Nat.eq_of_mul_eq_mul_right hb h)
 ·rw[ets,ets1,←Nat.mul_assoc,←Nat.add_mul];exact Nat.mul_le_mul_right _ dn
 ·rw[ets,ets1,←Nat.mul_assoc,←Nat.add_mul];intro h;exact de (Nat.eq_of_mul_eq_mul_right hb h)
theorem YJ{n k t G:Nat}(hG:2^t=G)(up:2*n<=(2*k+1)*G)(ue:2*n=(2*k+1)*G->k%2=0)(dn:2*k*G<=2*n+G)(de:2*k*G=2*n+G->k%2=0):VV n 1 k t:=by
 subst hG;exact⟨by simpa using up,by simpa using ue,by simpa using dn,by simpa using de⟩
theorem Mc(neg:Bool)(n drop:Nat):VV n 1 (Ieee.Toward.even.cut neg n drop) drop:=by
 unfold Ieee.Toward.cut;simp only[Nat.one_shiftLeft];rcases Nat.lt_or_ge (n.log2+2) drop with c|c
 ·rw[Nat.min_eq_right oM];have h1:n<2^(n.log2+1):=Nat.lt_log2_self;have h2:2^(n.log2+2)=2*2^(n.log2+1):=by rw[Nat.pow_succ];omega
  have h3:2^(n.log2+2)<=2^drop:=Nat.pow_le_pow_right oM oM;rw[Nat.div_eq_of_lt oM,Nat.mod_eq_of_lt oM];have e1:(decide (2^(n.log2+2)<2*n)||2^(n.log2+2)==2*n&&0%2==1)=false:=by
   have:¬ (2^(n.log2+2)<2*n):=oM;simp[this]
  rw[e1];refine⟨?_,?_,?_,?_⟩<;>simp<;>omega
 ·rw[Nat.min_eq_left oM];have hG:0<2^drop:=Nat.two_pow_pos drop;have h1:=Nat.div_add_mod n (2^drop);have h2:=Nat.mod_lt n hG;generalize hq:n/2^drop=q at *;generalize hr:n%2^drop=r at *;generalize hGd:2^drop=G at *;clear hq hr;have h3:2*n=2*(q*G)+2*r:=by rw[Nat.mul_comm q G];omega
  have x0:(2*q+1)*G=2*(q*G)+G:=by rw[Nat.add_mul,Nat.mul_assoc];omega
  have x1:(2*(q+1)+1)*G=2*(q*G)+3*G:=by rw[show 2*(q+1)+1=2*q+3 by omega,Nat.add_mul,Nat.mul_assoc]
  have x2:2*q*G=2*(q*G):=Nat.mul_assoc ..;have x3:2*(q+1)*G=2*(q*G)+2*G:=by rw[show 2*(q+1)=2*q+2 by omega,Nat.add_mul,Nat.mul_assoc]
  refine YJ hGd ?_ ?_ ?_ ?_<;>clear hGd
  all_goals(
   by_cases c1:G<2*r
   ·have e1:(decide (G<2*r)||G==2*r&&q%2==1)=true:=by simp[c1]
    rw[e1];simp only[Bool.toNat_true];omega
   ·by_cases c2:G=2*r
    ·by_cases c3:q%2=1
     ·have e1:(decide (G<2*r)||G==2*r&&q%2==1)=true:=by simp[c2,c3]
      rw[e1];simp only[Bool.toNat_true];omega
     ·have e1:(decide (G<2*r)||G==2*r&&q%2==1)=false:=by simp[c2];omega
      rw[e1];simp only[Bool.toNat_false,Nat.add_zero];omega
    ·have e1:(decide (G<2*r)||G==2*r&&q%2==1)=false:=by simp[c1,c2]
     rw[e1]
     simp only[Bool.toNat_false,Nat.add_zero];omega)
def BR(p:Nat)(L:Int)(mag:Nat)(place:Int):Nat:=
 if mag=0 then 0 else
 (max (place+mag.log2-p) L-L).toNat*2^p+Ieee.Toward.even.cut false (mag<<<(place-max (place+mag.log2-p) L).toNat) (max (place+mag.log2-p) L-place).toNat
theorem AX(f:Ieee.Format)(neg:Bool)(mag:Nat)(place:Int):
 f.nearest neg mag place=f.word neg (min (BR f.fractionBits f.leastPlace mag place) f.infRung):=by
 unfold Ieee.Format.nearest BR;by_cases h:mag=0
 ·rw[if_pos h,if_pos h,Nat.zero_min]
 ·rw[if_neg h,if_neg h];rfl
theorem IR(p:Nat)(L:Int)(mag:Nat)(place:Int)(h0:mag≠0):
 ∃t k j u:Nat,BR p L mag place=t*2^p+k/\VV (mag*2^j) 1 k u/\(L+t+j:Int)=place+u/\(t=0\/(p+u:Int)=mag.log2+j)/\(mag.log2+j:Int)<=p+u/\(j=0\/u=0):=by
 unfold BR;rw[if_neg h0];generalize hl:max (place+mag.log2-p) L=last;have hL:L<=last:=oM;have hq:place+mag.log2-p<=last:=oM;have hor:last=L\/last=place+mag.log2-p:=oM;rw[Nat.shiftLeft_eq];exact⟨(last-L).toNat,_,(place-last).toNat,(last-place).toNat,rfl,Mc _ _ _,oM,oM,oM,oM⟩
theorem Df(p:Nat)(L:Int)(mag:Nat)(place:Int)(hp:1<=p)(a s:Nat)(h:(a:Int)=place-L+s):
 F6 p (mag*2^a) (2^s) (BR p L mag place):=by
 by_cases h0:mag=0
 ·subst h0;have:BR p L 0 place=0:=by simp[BR]
  rw[this];have:=IE p 0 (2^s) (Nat.two_pow_pos s);rw[F8]at this;simpa using this
 ·obtain⟨t,k,j,u,e,hc,e1,e2,e3,e4⟩:=IR p L mag place h0;rw[e];have hb:j<=a+u:=oM;have hlo:2^mag.log2<=mag:=Nat.log2_self_le h0;have hhi:mag<2^(mag.log2+1):=Nat.lt_log2_self;have hcs:VV (mag*2^a) (2^s) k t:=by
   have:=hc.scale (a-j) s t oM;rwa[Nat.mul_assoc,←Nat.pow_add,show j+(a-j)=a by omega]at this
  refine(hcs.near (Nat.two_pow_pos s) hp ?_ ?_).1
  ·rcases e2 with c|c
   ·exact Or.inl c
   ·right;rw[←Nat.pow_add,←Nat.pow_add,show p+t+s=mag.log2+a by omega,Nat.pow_add];exact Nat.mul_le_mul_right _ hlo
  ·have:2*2^p*2^t*2^s=2^(p+t+s+1):=by
    rw[Nat.pow_succ,Nat.pow_add,Nat.pow_add,Nat.mul_comm _ 2];simp only[Nat.mul_assoc]
   rw[this]
   calc mag*2^a<2^(mag.log2+1)*2^a:=Nat.mul_lt_mul_of_pos_right hhi (Nat.two_pow_pos a)
    _=2^(mag.log2+1+a):=(Nat.pow_add ..).symm
    _<=2^(p+t+s+1):=Nat.pow_le_pow_right oM oM
structure VW where
 le:Nat->Prop
 lt:Nat->Prop
 a1:∀c,lt c->le c
 a2:∀c c',c<c'->le c'->lt c
theorem VW.le_mono(X:VW){c c':Nat}(h:c<=c')(k:X.le c'):X.le c:=by
 rcases Nat.lt_or_eq_of_le h with e|e
 ·exact X.a1 _ (X.a2 _ _ e k)
 ·rw[e];exact k
structure He(p:Nat)(X:VW)(r:Nat):Prop where
 up:¬X.lt (V p r+V p (r+1))
 ue:X.le (V p r+V p (r+1))->r%2=0
 dn:∀q,r=q+1->X.le (V p q+V p r)
 de:∀q,r=q+1->¬X.lt (V p q+V p r)->r%2=0
theorem He.mono{p:Nat}{X Y:VW}{r r':Nat}(h:He p X r)(h':He p Y r')(hl:∀c,X.lt c->Y.lt c)(hle:∀c,X.le c->Y.le c):r<=r':=by
 rcases Nat.lt_or_ge r' r with c|c
 ·exfalso;obtain⟨q,hq⟩:∃q,r=q+1:=⟨r-1,oM⟩
  have a1:=h.dn q hq;have a2:=h'.up;rcases Nat.lt_or_ge r' q with c2|c2
  ·have:V p r'+V p (r'+1)<V p q+V p r:=by
    have:=F1 p c2;have:=LV p (show r'+1<=r by omega);omega
   exact a2 (Y.a2 _ _ this (hle _ a1))
  ·have e:r'=q:=oM;subst e;subst hq;have e1:=h'.ue (hle _ a1);have e2:=h.de r' rfl (fun k=>a2 (hl _ k));omega
 ·exact c
structure YA(X:VW)(k t:Nat):Prop where
 up:¬X.lt ((2*k+1)*2^t)
 ue:X.le ((2*k+1)*2^t)->k%2=0
 dn:∀j,k=j+1->X.le ((2*j+1)*2^t)
 de:∀j,k=j+1->¬X.lt ((2*j+1)*2^t)->k%2=0
theorem YA.near{p:Nat}{X:VW}{k t:Nat}(h:YA X k t)(hp:1<=p)(hr:t=0\/X.le (2*(2^p*2^t)))(hu:¬X.le (4*(2^p*2^t))):
 He p X (t*2^p+k)/\k<=2*2^p/\(t=0\/2^p<=k):=by
 have hT:0<2^t:=Nat.two_pow_pos t;have hB2:2^p%2=0:=by
  obtain⟨q,rfl⟩:∃q,p=q+1:=⟨p-1,oM⟩
  rw[Nat.pow_succ];omega
 have hB:0<2^p:=Nat.two_pow_pos p;have kle:k<=2*2^p:=by
  rcases Nat.lt_or_ge (2*2^p) k with c|c
  ·exfalso;obtain⟨j,rfl⟩:∃j,k=j+1:=⟨k-1,oM⟩
   refine hu (X.le_mono ?_ (h.dn j rfl));rw[←Nat.mul_assoc];exact Nat.mul_le_mul_right _ oM
  ·exact c
 have kge:t=0\/2^p<=k:=by
  rcases hr with c|c
  ·exact Or.inl c
  ·right;rcases Nat.lt_or_ge k (2^p)with c2|c2
   ·exfalso;refine h.up (X.a2 _ _ ?_ c);rw[←Nat.mul_assoc];exact Nat.mul_lt_mul_of_pos_right oM hT
   ·exact c2
 refine⟨?_,kle,kge⟩;have par:(t*2^p+k)%2=k%2:=by
  have:(t*2^p)%2=0:=by rw[Nat.mul_mod,hB2,Nat.mul_zero,Nat.zero_mod]
  omega
 have vr:V p (t*2^p+k)=k*2^t:=Ef p t k kle kge;have vs:=GP p (t*2^p+k);have sge:2^t<=2^((t*2^p+k)/2^p-1):=by
  exact Zes
 have up2:(2*k+1)*2^t<=V p (t*2^p+k)+V p (t*2^p+k+1):=by
  rw[vs,vr];have:(2*k+1)*2^t=k*2^t+k*2^t+2^t:=by rw[Nat.add_mul,Nat.mul_assoc];omega
  omega
 have low:∀q,t*2^p+k=q+1->∃j,k=j+1/\(V p q+V p (t*2^p+k)=(2*j+1)*2^t\/(V p q+V p (t*2^p+k)<2*(2^p*2^t)/\X.le (2*(2^p*2^t)))):=by
  intro q hq;have hk0:k≠0:=by
   intro k0;subst k0;rcases kge with c|c
   ·subst c;omega
   ·omega
  obtain⟨j,rfl⟩:∃j,k=j+1:=⟨k-1,oM⟩
  refine⟨j,rfl,?_⟩;have hqj:q=t*2^p+j:=oM;rcases Nat.lt_or_ge j (2^p)with c2|c2
  ·by_cases c3:t=0
   ·left;have:V p q=j*2^t:=by rw[hqj];exact Ef p t j oM (Or.inl c3)
    rw[vr,this,←Nat.add_mul];congr 1;omega
   ·right;have hk:j+1=2^p:=oM;refine⟨?_,hr.resolve_left c3⟩;have:=F1 p (show q<t*2^p+(j+1) by omega);rw[vr,hk]at this ⊢;omega
  ·left;have:V p q=j*2^t:=by rw[hqj];exact Ef p t j oM (Or.inr c2)
   rw[vr,this,←Nat.add_mul];congr 1;omega
 refine⟨?_,?_,?_,?_⟩
 ·intro k1;exact h.up (by
   rcases Nat.lt_or_eq_of_le up2 with e|e
   ·exact X.a2 _ _ e (X.a1 _ k1)
   ·rw[e];exact k1)
 ·intro k1;rw[par];exact h.ue (X.le_mono up2 k1)
 ·intro q hq;obtain⟨j,hj,e|⟨e,e2⟩⟩:=low q hq
  ·rw[e];exact h.dn j hj
  ·exact X.a1 _ (X.a2 _ _ e e2)
 ·intro q hq k1;rw[par];obtain⟨j,hj,e|⟨e,e2⟩⟩:=low q hq
  ·rw[e]at k1;exact h.de j hj k1
  ·exact absurd (X.a2 _ _ e e2) k1
def XP(n:Nat):VW where
 le c:=c*c<=4*n
 lt c:=c*c<4*n
 a1:=fun c h=>Nat.le_of_lt h
 a2:=fun c c' h k=>Nat.lt_of_lt_of_le (Nat.mul_self_lt_mul_self h) k
def Ze(n d:Nat)(hd:0<d):VW where
 le c:=c*d<=2*n
 lt c:=c*d<2*n
 a1:=fun c h=>Nat.le_of_lt h
 a2:=fun c c' h k=>Nat.lt_of_lt_of_le (Nat.mul_lt_mul_of_pos_right h hd) k
theorem TN{p n d r:Nat}(hd:0<d):F6 p n d r↔He p (Ze n d hd) r:=by
 constructor
 ·intro h;refine⟨?_,?_,?_,?_⟩
  ·exact Nat.not_lt.2 h.up
  ·intro k;exact h.ue (Nat.le_antisymm h.up k)
  ·exact h.dn
  ·intro q hq k;exact h.de q hq (Nat.le_antisymm (h.dn q hq) (Nat.not_lt.1 k))
 ·intro h;refine⟨?_,?_,?_,?_⟩
  ·exact Nat.not_lt.1 h.up
  ·intro k;exact h.ue (Nat.le_of_eq k.symm)
  ·exact h.dn
  ·intro q hq k;exact h.de q hq (Nat.not_lt.2 (Nat.le_of_eq k.symm))
def D8(p n r:Nat):Prop:=He p (XP n) r
theorem D8.mono{p n n' r r':Nat}(h:D8 p n r)(h':D8 p n' r')(hn:n<=n'):r<=r':=
 He.mono h h' (fun c (k:c*c<4*n)=>show c*c<4*n' by omega) (fun c (k:c*c<=4*n)=>show c*c<=4*n' by omega)
theorem D8.unique{p n r r':Nat}(h:D8 p n r)(h':D8 p n r'):r=r':=
 Nat.le_antisymm (h.mono h' (Nat.le_refl _)) (h'.mono h (Nat.le_refl _))
theorem Hk(p:Nat)(L:Int)(mag:Nat)(place:Int)(hp:1<=p)(big:p+2<=mag.log2)(a:Nat)(b:Nat)(h:(a:Int)+L=place+b)(X:VW)
 (st:∀c u:Nat,u+a=c+b->2<=u->∀k,(X.lt (k*2^c)↔k*2^u<2*mag)/\(X.le (k*2^c)↔k*2^u<=2*mag)):He p X (BR p L mag place):=by
 have h0:mag≠0:=by intro e;subst e;simp[Nat.log2_zero]at big
 obtain⟨t,k,j,u,e,hc,e1,e2,e3,e4⟩:=IR p L mag place h0;have hj:j=0:=oM;subst hj;have hu2:2<=u:=oM;have htu:u+a=t+b:=oM;simp only[Nat.pow_zero,Nat.mul_one]at hc;rw[e];have hlo:2^mag.log2<=mag:=Nat.log2_self_le h0;have hhi:mag<2^(mag.log2+1):=Nat.lt_log2_self;have S:=st t u htu hu2;have up:=hc.up;have ue:=hc.ue;have dn:=hc.dn;have de:=hc.de;simp only[Nat.mul_one]at up ue dn de;have pc:YA X k t:=by
  refine⟨?_,?_,?_,?_⟩
  ·rw[(S _).1];omega
  ·rw[(S _).2];intro q;exact ue oM
  ·intro j hj;rw[(S _).2];subst hj;have:2*(j+1)*2^u=(2*j+1)*2^u+2^u:=by rw[←Nat.succ_mul];rfl
   omega
  ·intro j hj;rw[(S _).1];subst hj;have:2*(j+1)*2^u=(2*j+1)*2^u+2^u:=by rw[←Nat.succ_mul];rfl
   intro q;exact de oM
 refine(pc.near hp ?_ ?_).1
 ·rcases e2 with c|c
  ·exact Or.inl c
  ·right;rw[←Nat.mul_assoc,(S _).2,Nat.mul_assoc,←Nat.pow_add];have:p+u=mag.log2:=oM;rw[this];omega
 ·rw[←Nat.mul_assoc,(S _).2];have:2^(mag.log2+1)<=2^(p+u+1):=Nat.pow_le_pow_right oM oM;rw[Nat.mul_assoc,←Nat.pow_add];rw[Nat.pow_succ]at this;omega
def ng(a:Nat):Bool:=a/2147483648%2==1
def rg(a:Nat):Nat:=a%2147483648
def mg(a:Nat):Nat:=if rg a<8388608 then rg a else 8388608+rg a%8388608
def te(a:Nat):Nat:=rg a/8388608-1
def mv(a:Nat):Nat:=V 23 (rg a)
def sg(s:Bool)(m:Nat):Int:=if s then -(m:Int)else m
def sv(a:Nat):Int:=sg (ng a) (mv a)
def wd(s:Bool)(r:Nat):Nat:=if s then 2147483648+min r 2139095040 else min r 2139095040
def R(n:Nat):Nat:=BR 23 (-149) n (-149)
theorem Gl(a:Nat):mv a=mg a*2^te a:=by
 unfold mv V mg te;by_cases h:rg a<8388608
 ·rw[if_pos h,if_pos h,Nat.div_eq_of_lt h];simp
 ·rw[if_neg h,if_neg h]
theorem Mw(a:Nat):mg a<16777216:=by
 unfold mg;split<;>omega
theorem Bz:Ieee.single.leastPlace= -149:=rfl
theorem Cz:Ieee.single.fractionBits=23:=rfl
theorem GL(s:Bool)(r:Nat):Ieee.single.word s (min r Ieee.single.infRung)=wd s r:=rfl
theorem Cy(a:Nat):Ieee.single.read a=if rg a<8388608 then .number (ng a) (rg a) (-149)else if rg a<2139095040 then .number (ng a) (8388608+rg a%8388608) (-149+((rg a/8388608-1:Nat):Int))else if rg a=2139095040 then .infinity (ng a)else .nan (ng a) (rg a-2139095040):=rfl
theorem Bc(a:Nat)(h:rg a<2139095040):Ieee.single.read a=.number (ng a) (mg a) (-149+(te a:Int)):=by
 rw[Cy];unfold mg te;by_cases c:rg a<8388608
 ·rw[if_pos c,if_pos c,Nat.div_eq_of_lt c];simp
 ·rw[if_neg c,if_pos h,if_neg c]
theorem Ci(a:Nat)(h:rg a=2139095040):Ieee.single.read a=.infinity (ng a):=by
 rw[Cy,if_neg oM,if_neg oM,if_pos h]
theorem C3(a:Nat)(h:2139095040<rg a):Ieee.single.read a=.nan (ng a) (rg a-2139095040):=by
 rw[Cy,if_neg oM,if_neg oM,if_neg oM]
theorem Z7(n:Nat):F6 23 n 1 (R n):=by
 have:=Df 23 (-149) n (-149) dE 0 0 dE;simpa[R]using this
theorem MY(m:Nat)(t:Nat):BR 23 (-149) m (-149+(t:Int))=R (m*2^t):=by
 have h1:=Df 23 (-149) m (-149+(t:Int)) dE t 0 sO;exact h1.unique (Z7 (m*2^t)) dE dE sM
theorem IX(s:Bool)(m u c:Nat):Ieee.signed s m u*(2:Int)^c=sg s (m*2^(u+c)):=by
 unfold Ieee.signed sg;have e:((m<<<u:Nat):Int)*2^c=((m*2^(u+c):Nat):Int):=by
  rw[Nat.shiftLeft_eq,Nat.pow_add,←Nat.mul_assoc];push_cast;rfl
 cases s
 ·simpa using e
 ·simp only[if_true];rw[Int.neg_mul,e]
theorem JU(m n more:Nat)(hn:0<n)(place:Int)(big:25<=(2*((m<<<more)/n)+((m<<<more)%n != 0).toNat).log2)(a s:Nat)(h:(a:Int)=place+more+1+149+s)(hma:more<=a):
 F6 23 (m*2^a) (n*2^s) (BR 23 (-149) (2*((m<<<more)/n)+((m<<<more)%n != 0).toNat) place):=by
 have hd:0<n*2^s:=Nat.mul_pos hn (Nat.two_pow_pos s);rw[TN hd];refine Hk 23 (-149) _ place dE big a (more+1+s) (by push_cast;omega) _ ?_;intro c u hcu hu k;rw[Nat.shiftLeft_eq]at *;have hm:=Nat.div_add_mod (m*2^more) n;have hl:=Nat.mod_lt (m*2^more) hn;generalize hq:m*2^more/n=q at *;generalize hr:m*2^more%n=r at *;obtain⟨v,rfl⟩:∃v,u=v+2:=⟨u-2,oM⟩
 have hb:(r != 0).toNat=if r=0 then 0 else 1:=by by_cases c:r=0<;>simp[c]
 rw[hb];have e1:k*2^c*(n*2^s)=(k*2^v*n)*2^(s+c-v):=by
  have:2^c*2^s=2^v*2^(s+c-v):=by rw[←Nat.pow_add,←Nat.pow_add];congr 1;omega
  calc k*2^c*(n*2^s)=k*n*(2^c*2^s):=by grind
   _=k*n*(2^v*2^(s+c-v)):=by rw[this]
   _=_:=by grind
 have e2:2*(m*2^a)=(m*2^more)*2^(s+c-v):=by
  have:2^a*2=2^more*2^(s+c-v):=by rw[←Nat.pow_succ,←Nat.pow_add];congr 1;omega
  calc 2*(m*2^a)=m*(2^a*2):=by grind
   _=_:=by rw[this,Nat.mul_assoc]
 have hP:0<2^(s+c-v):=Nat.two_pow_pos _;have e3:k*2^(v+2)=4*(k*2^v):=by rw[Nat.pow_succ,Nat.pow_succ];grind
 show(k*2^c*(n*2^s)<2*(m*2^a)↔_)/\(k*2^c*(n*2^s)<=2*(m*2^a)↔_);rw[e1,e2,e3,Nat.mul_lt_mul_right hP,Nat.mul_le_mul_right_iff hP];generalize k*2^v=K;generalize m*2^more=M at *;have l1:K<q->K*n+n<=n*q:=fun h=>by
  have:=Nat.mul_le_mul_left n (show K+1<=q from h);rw[Nat.mul_add,Nat.mul_one,Nat.mul_comm n K]at this;exact this
 have l2:q<K->n*q+n<=K*n:=fun h=>by
  have:=Nat.mul_le_mul_left n (show q+1<=K from h);rw[Nat.mul_add,Nat.mul_one,Nat.mul_comm n K]at this;exact this
 have l3:q=K->n*q=K*n:=fun h=>by rw[h,Nat.mul_comm]
 rcases Nat.lt_trichotomy K q with d|d|d
 ·have:=l1 d;by_cases r0:r=0<;>simp only[r0,if_true,if_false]<;>omega
 ·have:=l3 d.symm;by_cases r0:r=0<;>simp only[r0,if_true,if_false]<;>omega
 ·have:=l2 d;by_cases r0:r=0<;>simp only[r0,if_true,if_false]<;>omega
theorem J5{m n more j:Nat}(hn:0<n)(h:n*2^j<=m*2^more):j+1<=(2*((m<<<more)/n)+((m<<<more)%n != 0).toNat).log2:=by
 rw[Nat.shiftLeft_eq];have:2^j<=m*2^more/n:=(Nat.le_div_iff_mul_le hn).2 (by rw[Nat.mul_comm];exact h);generalize m*2^more/n=q at *;generalize (m*2^more%n != 0).toNat=b;have hp:=Nat.two_pow_pos j;apply(Nat.le_log2 oM).2;rw[Nat.pow_succ];omega
theorem Wq(a b:Nat)(ha:rg a<2139095040)(hb:rg b<2139095040)(ha0:mg a≠0)(hb0:mg b≠0):
 ∃r,Ieee.single.div a b=some (wd (ng a^^ng b) r)/\F6 23 (mv a*2^149) (mv b) r:=by
 unfold Ieee.Format.div;rw[Bc a ha,Bc b hb];simp only[Ieee.Datum.quotient,Option.map_some,Ieee.Format.write,if_neg hb0];rw[AX];refine⟨_,rfl,?_⟩;rw[Bz,Cz];generalize hmore:23+2+(mg b).log2-(mg a).log2=more;have hbp:0<mg b:=Nat.pos_of_ne_zero hb0;have hla:(mg a).log2<=23:=by
  have:(mg a).log2<24:=(Nat.log2_lt ha0).2 (Mw a);omega
 have big:25<=(2*((mg a<<<more)/mg b)+((mg a<<<more)%mg b != 0).toNat).log2:=by
  refine J5 hbp (j:=24) ?_;have h1:mg b<2^((mg b).log2+1):=Nat.lt_log2_self;have h2:2^(mg a).log2<=mg a:=Nat.log2_self_le ha0
  calc mg b*2^24<=2^((mg b).log2+1)*2^24:=Nat.mul_le_mul_right _ (Nat.le_of_lt h1)
   _=2^(mg a).log2*2^more:=by rw[←Nat.pow_add,←Nat.pow_add];congr 1;omega
   _<=mg a*2^more:=Nat.mul_le_mul_right _ h2
 have:=JU (mg a) (mg b) more hbp (-149+(te a:Int)-(-149+(te b:Int))-(more:Nat)-1) big (149+te a) (te b) (by push_cast;omega) (by have:(mg b).log2<24:=(Nat.log2_lt hb0).2 (Mw b);omega);rw[Gl,Gl];rw[show mg a*2^te a*2^149=mg a*2^(149+te a) by rw[Nat.mul_assoc,←Nat.pow_add,Nat.add_comm]];exact this
theorem IS(p m c:Nat)(hm:m<2^(p+1)):∃t k,V p (t*2^p+k)=m*2^c/\k<=2*2^p/\(t=0\/2^p<=k)/\k*2^t=m*2^c:=by
 by_cases h0:m=0
 ·subst h0;exact⟨0,0,by simp[F8],oM,Or.inl rfl,sM⟩
 ·have hl:m.log2<p+1:=(Nat.log2_lt h0).2 hm;have hlo:2^m.log2<=m:=Nat.log2_self_le h0;have hhi:m<2^(m.log2+1):=Nat.lt_log2_self;have e:m*2^min c (p-m.log2)*2^(c-min c (p-m.log2))=m*2^c:=by
   rw[Nat.mul_assoc,←Nat.pow_add];congr 2;omega
  have k1:m*2^min c (p-m.log2)<=2*2^p:=by
   calc m*2^min c (p-m.log2)<=2^(m.log2+1)*2^min c (p-m.log2):=Nat.mul_le_mul_right _ (Nat.le_of_lt hhi)
    _=2^(m.log2+1+min c (p-m.log2)):=(Nat.pow_add ..).symm
    _<=2^(p+1):=Nat.pow_le_pow_right oM oM
    _=2*2^p:=by rw[Nat.pow_succ,Nat.mul_comm]
  have k2:c-min c (p-m.log2)=0\/2^p<=m*2^min c (p-m.log2):=by
   rcases Nat.le_total c (p-m.log2)with q|q
   ·left;omega
   ·right
    calc 2^p=2^m.log2*2^min c (p-m.log2):=by rw[←Nat.pow_add];congr 1;omega
     _<=_:=Nat.mul_le_mul_right _ hlo
  exact⟨c-min c (p-m.log2),m*2^min c (p-m.log2),by rw[Ef p _ _ k1 k2,e],k1,k2,e⟩
theorem FF(n:Nat):∀ (todo root:Nat),root*root<=n->n<(root+2^todo)*(root+2^todo)->
 Ieee.Datum.rootFrom n todo root*Ieee.Datum.rootFrom n todo root<=n/\n<(Ieee.Datum.rootFrom n todo root+1)*(Ieee.Datum.rootFrom n todo root+1)
 |0,root,h1,h2=>by simpa[Ieee.Datum.rootFrom]using⟨h1,h2⟩
 |todo+1,root,h1,h2=>by
  unfold Ieee.Datum.rootFrom;simp only[Nat.shiftLeft_eq,Nat.one_mul];by_cases c:(root+2^todo)*(root+2^todo)<=n
  ·rw[if_pos c];refine FF n todo _ c ?_;rw[Nat.pow_succ]at h2;rw[show root+2^todo+2^todo=root+2^todo*2 by omega];exact h2
  ·rw[if_neg c];exact FF n todo root h1 oM
theorem GS(p:Nat)(L:Int)(w n:Nat)(place:Int)(hp:1<=p)(h1:w*w<=n)(h2:n<(w+1)*(w+1))(big:p+2<=(2*w+(w*w != n).toNat).log2)(a:Nat)(h:(a:Int)=place+1-L):
 D8 p (n*(2^a*2^a)) (BR p L (2*w+(w*w != n).toNat) place):=by
 refine Hk p L _ place hp big a 1 oM _ ?_;intro c u hcu hu k;obtain⟨v,rfl⟩:∃v,u=v+2:=⟨u-2,oM⟩
 have hc:c=v+1+a:=oM;subst hc;have hb:(w*w != n).toNat=if w*w=n then 0 else 1:=by by_cases c:w*w=n<;>simp[c]
 rw[hb];have hA:0<2^a*2^a:=Nat.mul_pos (Nat.two_pow_pos a) (Nat.two_pow_pos a);have e1:k*2^(v+1+a)*(k*2^(v+1+a))=4*((k*2^v)*(k*2^v))*(2^a*2^a):=by
  rw[Nat.pow_add,Nat.pow_succ];grind
 have e2:4*(n*(2^a*2^a))=4*n*(2^a*2^a):=by rw[Nat.mul_assoc]
 have e3:k*2^(v+2)=4*(k*2^v):=by rw[Nat.pow_succ,Nat.pow_succ];grind
 show(k*2^(v+1+a)*(k*2^(v+1+a))<4*(n*(2^a*2^a))↔_)/\(k*2^(v+1+a)*(k*2^(v+1+a))<=4*(n*(2^a*2^a))↔_);rw[e1,e2,e3,Nat.mul_lt_mul_right hA,Nat.mul_le_mul_right_iff hA];generalize k*2^v=K;rcases Nat.lt_trichotomy K w with d|d|d
 ·have:=Nat.mul_self_lt_mul_self d;by_cases e:w*w=n<;>simp only[e,if_true,if_false]<;>omega
 ·subst d;by_cases e:K*K=n<;>simp only[e,if_true,if_false]<;>omega
 ·have:=Nat.mul_self_le_mul_self (show w+1<=K from d);by_cases e:w*w=n<;>simp only[e,if_true,if_false]<;>omega
theorem TL(p q:Nat):∃k t,V p q+V p (q+1)=(2*k+1)*2^t/\k<2*2^p/\(t=0\/2^p<=k):=by
 obtain⟨t,k,hr,hk,h,ht⟩:=G4 p q;refine⟨k,t,?_,hk,h⟩;rw[hr,Ef p t k oM h,Nat.add_assoc,Ef p t (k+1) oM oM,←Nat.add_mul];congr 1;omega
theorem YT{A u Q c g:Nat}(hA:A=c*Q)(hQ:0<Q)(hu:u*2^53<=A)(hc:c*c<2^50*g)(h:(c*c+g)*(Q*Q)<=(A+u)*(A+u)):False:=by
 have e1:(A+u)*(A+u)=A*A+2*(A*u)+u*u:=by grind
 have e2:A*A=c*c*(Q*Q):=by rw[hA];grind
 have e3:(c*c+g)*(Q*Q)=c*c*(Q*Q)+g*(Q*Q):=Nat.add_mul ..;have k1:A*u*2^53<=A*A:=by rw[Nat.mul_assoc];exact Nat.mul_le_mul_left _ hu
 have k2:u*u*2^53<=A*u:=by
  have:=Nat.mul_le_mul_left u hu;rw[←Nat.mul_assoc,Nat.mul_comm u A]at this;exact this
 have hQQ:0<Q*Q:=Nat.mul_pos hQ hQ;have k3:c*c*(Q*Q)<2^50*g*(Q*Q):=Nat.mul_lt_mul_of_pos_right hc hQQ;rw[Nat.mul_assoc (2^50) g]at k3;generalize A*u=Y at *;generalize u*u=Z at *;generalize g*(Q*Q)=X at *;generalize c*c*(Q*Q)=W at *;omega
theorem YS{A B u Q c g n:Nat}(hA:A=c*Q)(hQ:0<Q)(hu:u*2^53<=A)(hB:B+u=A)(hc:c*c<2^50*g)(hn:n+g<=c*c)(h:B*B<=n*(Q*Q)):False:=by
 have e2:A*A=c*c*(Q*Q):=by rw[hA];grind
 have e1:A*A=B*B+2*(B*u)+u*u:=by rw[←hB];grind
 have e3:(n+g)*(Q*Q)<=c*c*(Q*Q):=Nat.mul_le_mul_right _ hn;rw[Nat.add_mul]at e3;have k1:B*u*2^53<=B*A:=by rw[Nat.mul_assoc];exact Nat.mul_le_mul_left _ hu
 have k1':B*A<=A*A:=Nat.mul_le_mul_right _ oM;have k2:u*u*2^53<=A*A:=by
  exact Zfn
 have hQQ:0<Q*Q:=Nat.mul_pos hQ hQ;have k3:c*c*(Q*Q)<2^50*g*(Q*Q):=Nat.mul_lt_mul_of_pos_right hc hQQ;rw[Nat.mul_assoc (2^50) g]at k3;generalize B*u=Y at *;generalize u*u=Z at *;generalize g*(Q*Q)=X at *;exact Zfc
theorem WD{A B u Q c n:Nat}(hA:A=c*Q)(hQ:0<Q)(hu:u*2^53<=A)(hB:B+u=A)(h:B*B<=n*(Q*Q)):c*c<=2*n:=by
 have e2:A*A=c*c*(Q*Q):=by rw[hA];grind
 have e1:A*A=B*B+2*(B*u)+u*u:=by rw[←hB];grind
 have k1:B*u*2^53<=B*A:=by rw[Nat.mul_assoc];exact Nat.mul_le_mul_left _ hu
 have k1':B*A<=A*A:=Nat.mul_le_mul_right _ oM;have k2:u*u*2^53<=A*A:=by
  exact Zfn
 have hQQ:0<Q*Q:=Nat.mul_pos hQ hQ;refine Nat.le_of_mul_le_mul_right (c:=Q*Q) ?_ hQQ;rw[Nat.mul_assoc 2 n];generalize B*u=Y at *;generalize u*u=Z at *;exact Zfc
theorem Mp{g a b:Nat}(ha:a%g=0)(hb:b%g=0)(h:a<b):a+g<=b:=by
 rcases Nat.eq_zero_or_pos g with e|e
 ·subst e;omega
 ·obtain⟨x,rfl⟩:=Nat.dvd_of_mod_eq_zero ha;obtain⟨y,rfl⟩:=Nat.dvd_of_mod_eq_zero hb;have:x<y:=Nat.lt_of_mul_lt_mul_left h
  calc g*x+g=g*(x+1):=by rw[Nat.mul_add,Nat.mul_one]
   _<=g*y:=Nat.mul_le_mul_left _ this
theorem Y3(p r:Nat)(h:2^p<=r):2^(r/2^p-1)*2^p<=V p r:=by
 obtain⟨t,k,hr,hk,hkt,ht⟩:=G4 p r;have hk2:2^p<=k:=by
  rcases hkt with e|e
  ·subst e;omega
  ·exact e
 rw[←ht,Nat.mul_comm];have:V p r=k*2^t:=by rw[hr];exact Ef p t k oM hkt
 rw[this];exact Nat.mul_le_mul_right _ hk2
theorem Oq(m j N Q rD q:Nat)(hN:N=m*2^j*2^149)(S e:Nat)(hS:S=2^e)(he:52<=e)(hQe:Q=2*S)(hm0:0<m)(hm:m<2^24)(h:D8 52 (N*(Q*Q)) rD):
 ((V 23 q+V 23 (q+1))*(V 23 q+V 23 (q+1))<4*N->(V 23 q+V 23 (q+1))*Q<2*V 52 rD)/\
 (4*N<(V 23 q+V 23 (q+1))*(V 23 q+V 23 (q+1))->2*V 52 rD<(V 23 q+V 23 (q+1))*Q)/\
 ((V 23 q+V 23 (q+1))*(V 23 q+V 23 (q+1))=4*N->2*V 52 rD=(V 23 q+V 23 (q+1))*Q):=by
 obtain⟨k,t,hc,hk,hkt⟩:=TL 23 q;rw[hc];generalize hC:(2*k+1)*2^t=c at *;obtain⟨tM,kM,hV,-,-,-⟩:=IS 52 (2*k+1) (t+e) (Nat.lt_of_lt_of_le (show 2*k+1<2^25 by omega) dE);generalize tM*2^52+kM=rM at *;rw[Nat.pow_add,←hS]at hV;have hS52:2^52<=S:=by rw[hS];exact Nat.pow_le_pow_right dE he
 clear hS;have hV2:2*V 52 rM=c*Q:=by
  rw[hV,←hC,hQe]
  grind
 have hc0:0<c:=by rw[←hC];exact Nat.mul_pos oM (Nat.two_pow_pos t)
 have hrM:2^52<=rM:=by
  rcases Nat.lt_or_ge rM (2^52)with e|e
  ·exfalso;have h1:V 52 rM=rM:=by unfold V;rw[if_pos e]
   have h2:2^52<=V 52 rM:=by
    rw[hV,←Nat.mul_assoc];exact Nat.le_trans hS52 (Nat.le_mul_of_pos_left _ (Nat.mul_pos oM (Nat.two_pow_pos t)))
   omega
  ·exact e
 have hstep:2^(rM/2^52-1)*2^53<=c*Q:=by
  have:=Y3 52 rM hrM;have e53:(2:Nat)^53=2*2^52:=dE;rw[←hV2,e53,←Nat.mul_assoc,Nat.mul_comm _ 2,Nat.mul_assoc];exact Nat.mul_le_mul_left 2 this
 have hQ:0<Q:=by rw[hQe];have:0<(2:Nat)^52:=Nat.two_pow_pos 52;omega
 clear hQe;have up:¬ ((V 52 rD+V 52 (rD+1))*(V 52 rD+V 52 (rD+1))<4*(N*(Q*Q))):=h.up;have dn:∀q,rD=q+1->(V 52 q+V 52 rD)*(V 52 q+V 52 rD)<=4*(N*(Q*Q)):=h.dn;have hsqQ:∀x:Nat,x*Q*(x*Q)=x*x*(Q*Q):=by
  intro x;rw[Nat.mul_mul_mul_comm]
 have h4:4*(N*(Q*Q))=4*N*(Q*Q):=by rw[Nat.mul_assoc]
 rw[h4]at up dn;have hQQ:0<Q*Q:=Nat.mul_pos hQ hQ;have below:rD<rM->(V 52 rD+V 52 (rD+1))<c*Q:=by
  intro l;have:=F1 52 l;have:=LV 52 (show rD+1<=rM from l);omega
 have above:rM<rD->∃q,rD=q+1/\c*Q<V 52 q+V 52 rD:=by
  intro l;refine⟨rD-1,oM,?_⟩;have:=F1 52 l;have:=LV 52 (show rM<=rD-1 by omega);omega
 have hcsq:c*c<2^50*(2^t*2^t):=by
  rw[←hC];have h1:(2*k+1)*(2*k+1)<2^50:=by
   have:2*k+1<2^25:=oM
   calc (2*k+1)*(2*k+1)<2^25*2^25:=Nat.mul_self_lt_mul_self this
    _=2^50:=dE
  have h2:0<2^t*2^t:=Nat.mul_pos (Nat.two_pow_pos t) (Nat.two_pow_pos t);rw[Nat.mul_mul_mul_comm];exact Nat.mul_lt_mul_of_pos_right h1 h2
 have hcm:c*c%(2^t*2^t)=0:=by rw[←hC,Nat.mul_mul_mul_comm];exact Nat.mul_mod_left ..
 have hNm:c*c<=2*(4*N)->4*N%(2^t*2^t)=0:=by
  intro l;have e4:4*N=m*2^(j+151):=by
   rw[hN,Nat.mul_assoc m,←Nat.pow_add,show j+151=j+149+2 from rfl,Nat.pow_add 2 (j+149) 2];grind
  have hle:t+t<=j+151:=by
   rcases hkt with e|e
   ·omega
   ·rcases Nat.lt_or_ge (j+151) (t+t)with f|f
    ·exfalso;have h1:2^48*(2^t*2^t)<=c*c:=by
      rw[←hC,Nat.mul_mul_mul_comm];apply Nat.mul_le_mul_right;have:2^24<=2*k+1:=oM
      calc 2^48=2^24*2^24:=dE
       _<=_:=Nat.mul_self_le_mul_self this
     have h2:2*(4*N)<2^48*(2^t*2^t):=by
      rw[e4,←Nat.pow_add,←Nat.mul_assoc]
      calc 2*m*2^(j+151)<2^48*2^(j+151):=Nat.mul_lt_mul_of_pos_right oM (Nat.two_pow_pos _)
       _<=2^48*2^(t+t):=Nat.mul_le_mul_left _ (Nat.pow_le_pow_right dE oM)
     omega
    ·exact f
  rw[e4,←Nat.pow_add,show j+151=(t+t)+(j+151-(t+t)) by omega,Nat.pow_add,←Nat.mul_assoc,Nat.mul_comm m,Nat.mul_assoc];exact Nat.mul_mod_right ..
 refine⟨?_,?_,?_⟩
 ·intro l;rcases Nat.lt_or_ge (c*Q) (2*V 52 rD)with f|f
  ·exact f
  ·exfalso;have hle:rD<=rM:=by
    rcases Nat.lt_or_ge rM rD with f2|f2
    ·have:=F1 52 f2;omega
    ·exact f2
   apply up;rcases Nat.lt_or_eq_of_le hle with e|e
   ·refine Nat.lt_trans (Nat.mul_self_lt_mul_self (below e)) ?_;rw[hsqQ];exact Nat.mul_lt_mul_of_pos_right l hQQ
   ·subst e;have hst:V 52 (rD+1)=V 52 rD+2^(rD/2^52-1):=GP 52 rD;have hsum:V 52 rD+V 52 (rD+1)=c*Q+2^(rD/2^52-1):=oM;rw[hsum];rcases Nat.lt_or_ge ((c*Q+2^(rD/2^52-1))*(c*Q+2^(rD/2^52-1))) (4*N*(Q*Q))with f3|f3
    ·exact f3
    ·exfalso;refine YT rfl hQ hstep hcsq (Nat.le_trans (Nat.mul_le_mul_right _ ?_) f3);exact Mp hcm (hNm oM) l
 ·intro l;rcases Nat.lt_or_ge (2*V 52 rD) (c*Q)with f|f
  ·exact f
  ·exfalso;have hle:rM<=rD:=by
    rcases Nat.lt_or_ge rD rM with f2|f2
    ·have:=F1 52 f2;omega
    ·exact f2
   rcases Nat.lt_or_eq_of_le hle with e|e
   ·obtain⟨q,hq,hab⟩:=above e;have h1:=dn q hq;have h2:=Nat.mul_self_lt_mul_self hab;rw[hsqQ]at h2;have h3:4*N*(Q*Q)<c*c*(Q*Q):=Nat.mul_lt_mul_of_pos_right l hQQ;omega
   ·subst e;obtain⟨q,rfl⟩:∃q,rM=q+1:=⟨rM-1,by have:0<(2:Nat)^52:=Nat.two_pow_pos 52;omega⟩
    have h1:=dn q rfl;have hst:V 52 (q+1)=V 52 q+2^(q/2^52-1):=GP 52 q;have hsm:2^(q/2^52-1)*2^53<=c*Q:=by
     refine Nat.le_trans (Nat.mul_le_mul_right _ ?_) hstep;apply Nat.pow_le_pow_right dE;have:q/2^52<=(q+1)/2^52:=Nat.div_le_div_right oM;omega
    have hB:V 52 q+V 52 (q+1)+2^(q/2^52-1)=c*Q:=oM;have hh:=WD rfl hQ hsm hB h1;exact YS rfl hQ hsm hB hcsq (Mp (hNm hh) hcm l) h1
 ·intro l;have e:rD=rM:=by
   rcases Nat.lt_trichotomy rD rM with e|e|e
   ·exfalso;apply up;have:=Nat.mul_self_lt_mul_self (below e);rw[hsqQ,l]at this;exact this
   ·exact e
   ·exfalso;obtain⟨q,hq,hab⟩:=above e;have h1:=dn q hq;have h2:=Nat.mul_self_lt_mul_self hab;rw[hsqQ,l]at h2;omega
  rw[e];exact hV2
theorem KH(m j rD r:Nat)(hm0:0<m)(hm:m<2^24)(N Q:Nat)(hN:N=m*2^j*2^149)(S e:Nat)(hS:S=2^e)(he:52<=e)(hQe:Q=2*S)(h:D8 52 (N*(Q*Q)) rD)(hr:F6 23 (V 52 rD) Q r):D8 23 N r:=by
 have A:=fun q=>Oq m j N Q rD q hN S e hS he hQe hm0 hm h;have up:=hr.up;have ue:=hr.ue;have dn:=hr.dn;have de:=hr.de;refine⟨?_,?_,?_,?_⟩
 ·intro k;exact absurd ((A r).1 k) oM
 ·intro k;rcases Nat.lt_or_eq_of_le k with e|e
  ·exact absurd ((A r).1 e) oM
  ·exact ue ((A r).2.2 e)
 ·intro q hq;subst hq;rcases Nat.lt_or_ge (4*N) ((V 23 q+V 23 (q+1))*(V 23 q+V 23 (q+1)))with e|e
  ·exact absurd ((A q).2.1 e) (Nat.not_lt.2 (dn q rfl))
  ·exact e
 ·intro q hq k;subst hq;rcases Nat.lt_or_ge (4*N) ((V 23 q+V 23 (q+1))*(V 23 q+V 23 (q+1)))with e|e
  ·exact absurd ((A q).2.1 e) (Nat.not_lt.2 (dn q rfl))
  ·exact de q rfl ((A q).2.2 (Nat.le_antisymm e (Nat.not_lt.1 k))).symm
theorem Ey(f:Ieee.Format)(s:Bool)(r:Nat)(h:r<f.infRung):∃m t:Nat,f.read (f.word s r)=.number s m (f.leastPlace+(t:Int))/\m*2^t=V f.fractionBits r/\(m<2*2^f.fractionBits):=by
 have hlt:r<f.signWeight:=Nat.lt_trans h f.infRung_lt;have e1:f.word s r%f.signWeight=r:=by
  unfold Ieee.Format.word;split
  ·rw[Nat.add_mod_left,Nat.mod_eq_of_lt hlt]
  ·exact Nat.mod_eq_of_lt hlt
 have e2:(f.word s r/f.signWeight%2==1)=s:=by
  unfold Ieee.Format.word;cases s
  ·simp[Nat.div_eq_of_lt hlt]
  ·have:(f.signWeight+r)/f.signWeight=1:=by
    rw[Nat.add_div_left _ (Nat.zero_lt_of_lt hlt),Nat.div_eq_of_lt hlt]
   simp[this]
 have hB:0<2^f.fractionBits:=Nat.two_pow_pos _;unfold Ieee.Format.read;simp only[e1,e2];unfold V;by_cases c:r<f.binade
 ·rw[if_pos c];have c':r<2^f.fractionBits:=c;rw[if_pos c'];exact⟨r,0,sM,sM,oM⟩
 ·rw[if_neg c,if_pos h];have c':¬r<2^f.fractionBits:=c;rw[if_neg c'];have:=Nat.mod_lt r hB;exact⟨_,_,rfl,rfl,by unfold Ieee.Format.binade;omega⟩
theorem Yg(p t r:Nat)(h:(t+1)*2^p<=r):2^(p+t)<=V p r:=by
 refine Nat.le_trans ?_ (LV p h);have:(t+1)*2^p=t*2^p+2^p:=by rw[Nat.add_mul,Nat.one_mul]
 rw[this,Ef p t (2^p) oM (Or.inr (Nat.le_refl _)),Nat.pow_add];exact Nat.le_refl _
theorem D8.small{p n r:Nat}(h:D8 p n r):V p r*V p r<=4*n:=by
 rcases Nat.eq_zero_or_pos r with e|e
 ·subst e;rw[F8];omega
 ·have:(V p (r-1)+V p r)*(V p (r-1)+V p r)<=4*n:=h.dn (r-1) oM;exact Nat.le_trans (Nat.mul_self_le_mul_self oM) this
theorem D8.lt{p n r t R:Nat}(h:D8 p n r)(hR:(t+1)*2^p<=R)(hn:4*n<2^(p+t)*2^(p+t)):r<R:=by
 rcases Nat.lt_or_ge r R with c|c
 ·exact c
 ·have h1:=Yg p t r (Nat.le_trans hR c);have h2:=Nat.mul_self_le_mul_self h1;have h3:=h.small;omega
theorem Yv(a:Nat)(h:rg a<2139095040):te a<=253:=by unfold te;omega
theorem In:Ieee.double.infRung=2047*2^52:=rfl
theorem ED:Ieee.double.leastPlace= -1074:=rfl
theorem CU:Ieee.double.fractionBits=52:=rfl
theorem Ko(m t:Nat)(s:Bool)(hm:m<2^24)(ht:t<=253):∃r,Ieee.double.nearest s m (-149+(t:Int))=Ieee.double.word s r/\V 52 r=m*2^(t+925)/\r<Ieee.double.infRung:=by
 rw[AX,CU,ED];have h1:=Df 52 (-1074) m (-149+(t:Int)) dE (t+925) 0 oM;obtain⟨tM,kM,hV,-,-,-⟩:=IS 52 m (t+925) (Nat.lt_of_lt_of_le hm dE);have h2:=IE 52 (tM*2^52+kM) 1 dE;rw[hV]at h2;have e:=h1.unique h2 dE dE (by rw[Nat.pow_zero,Nat.mul_one,Nat.mul_one]);rw[e];have lt:tM*2^52+kM<Ieee.double.infRung:=by
  rcases Nat.lt_or_ge (tM*2^52+kM) Ieee.double.infRung with c|c
  ·exact c
  ·exfalso;obtain⟨T,hT⟩:∃T:Nat,T=2000:=⟨_,rfl⟩
   have h3:=Yg 52 T _ (Nat.le_trans (show(T+1)*2^52<=Ieee.double.infRung by rw[In];exact Nat.mul_le_mul_right _ oM) c);rw[hV]at h3;have h4:m*2^(t+925)<2^24*2^(t+925):=Nat.mul_lt_mul_of_pos_right hm (Nat.two_pow_pos _);have h5:2^24*2^(t+925)<=2^(52+T):=by
    rw[←Nat.pow_add];exact Nat.pow_le_pow_right dE oM
   exact absurd (Nat.lt_of_le_of_lt h3 h4) (Nat.not_lt.2 h5)
 exact⟨tM*2^52+kM,by rw[Nat.min_eq_left (Nat.le_of_lt lt)],hV,lt⟩
theorem MN(x:Nat)(hx:x=1074)(r:Nat)(hr:r<Ieee.double.infRung)(h0:r≠0):∃rD,Ieee.double.sqrt (Ieee.double.word false r)=some (Ieee.double.word false (min rD Ieee.double.infRung))/\D8 52 (V 52 r*2^x) rD:=by
 obtain⟨m,t,hread,hmt,hm⟩:=Ey Ieee.double false r hr;have hV0:0<V 52 r:=by have:=F1 52 (Nat.pos_of_ne_zero h0);omega
 have hm0:m≠0:=by
  intro e;subst e;rw[CU]at hmt;omega
 unfold Ieee.Format.sqrt;rw[hread];simp only[Ieee.Datum.root,if_neg hm0,Bool.false_eq_true,if_false,Option.map_some,Ieee.Format.write];rw[AX,CU,ED];have hl:m.log2<=52:=by
  have:m.log2<53:=(Nat.log2_lt hm0).2 (by rw[CU]at hm;exact Nat.lt_of_lt_of_le hm dE);omega
 generalize hi:(-1074+(t:Int))=i;generalize hm1:2*(52+2)-m.log2=more1;generalize hmore:more1+((i-(more1:Int))%2).toNat=more;have hpar:(i-(more:Int))%2=0:=oM;have hmo:56<=more/\more<=109:=oM;have hn0:m<<<more≠0:=by
  rw[Nat.shiftLeft_eq];exact Nat.ne_of_gt (Nat.mul_pos (Nat.pos_of_ne_zero hm0) (Nat.two_pow_pos _))
 generalize hn:m<<<more=n at *;have hlo:2^m.log2<=m:=Nat.log2_self_le hm0;have hn108:2^108<=n:=by
  rw[←hn,Nat.shiftLeft_eq]
  calc 2^108<=2^(m.log2+more):=Nat.pow_le_pow_right dE oM
   _=2^m.log2*2^more:=Nat.pow_add ..
   _<=m*2^more:=Nat.mul_le_mul_right _ hlo
 have hrt:=FF n (n.log2/2+1) 0 oM (by
  have:n<2^(n.log2+1):=Nat.lt_log2_self;rw[Nat.zero_add,←Nat.pow_add]
  exact Nat.lt_of_lt_of_le this (Nat.pow_le_pow_right dE oM))
 generalize Ieee.Datum.rootFrom n (n.log2/2+1) 0=w at *;have hw:2^53<=w:=by
  rcases Nat.lt_or_ge w (2^53)with c|c
  ·exfalso;have:=Nat.mul_self_le_mul_self (show w+1<=2^53 from c);have e:(2:Nat)^53*2^53<2^108:=dE;omega
  ·exact c
 have big:52+2<=(2*w+(w*w != n).toNat).log2:=by
  apply(Nat.le_log2 oM).2;omega
 refine⟨_,rfl,?_⟩;obtain⟨a,ha⟩:∃a:Nat,(a:Int)=(i-(more:Int))/2+1074:=⟨((i-(more:Int))/2+1074).toNat,oM⟩
 have hnr:=GS 52 (-1074) w n ((i-(more:Int))/2-1) dE hrt.1 hrt.2 big a oM;have e:n*(2^a*2^a)=V 52 r*2^x:=by
  rw[CU]at hmt;rw[←hmt,←hn,Nat.shiftLeft_eq,←Nat.pow_add,Nat.mul_assoc,Nat.mul_assoc,←Nat.pow_add,←Nat.pow_add];congr 2;omega
 rw[e]at hnr;exact hnr
theorem Vr(a:Nat)(ha:rg a<2139095040)(hs:ng a=false)(h0:mg a≠0):
 ∃rW rD mD tD r,Ieee.double.nearest false (mg a) (-149+(te a:Int))=Ieee.double.word false rW/\rW<Ieee.double.infRung/\
  Ieee.double.sqrt (Ieee.double.word false rW)=some (Ieee.double.word false rD)/\rD<Ieee.double.infRung/\
  Ieee.double.read (Ieee.double.word false rD)=.number false mD (-1074+(tD:Nat))/\
  Ieee.single.nearest false mD (-1074+(tD:Nat))=wd false r/\r<2139095040/\D8 23 (mv a*2^149) r:=by
 have hm24:mg a<2^24:=Mw a;have ht:=Yv a ha;obtain⟨rW,hw1,hw2,hw3⟩:=Ko (mg a) (te a) false hm24 ht;have hrW:rW≠0:=by
  intro e;subst e;rw[F8]at hw2;have:=Nat.mul_pos (Nat.pos_of_ne_zero h0) (Nat.two_pow_pos (te a+925));omega
 obtain⟨x,hx⟩:∃x:Nat,x=1074:=⟨_,rfl⟩
 obtain⟨rD,hd1,hd2⟩:=MN x hx rW hw3 hrW;obtain⟨e,he⟩:∃e:Nat,e=924:=⟨_,rfl⟩
 have hN:V 52 rW*2^x=mg a*2^te a*2^149*((2*2^e)*(2*2^e)):=by
  have e2:(2:Nat)*2^e=2^(e+1):=by rw[Nat.pow_succ,Nat.mul_comm]
  rw[hw2,e2,Nat.mul_assoc,Nat.mul_assoc,Nat.mul_assoc,←Nat.pow_add,←Nat.pow_add,←Nat.pow_add,←Nat.pow_add];congr 2;omega
 rw[hN]at hd2;obtain⟨y,hy⟩:∃y:Nat,y=426:=⟨_,rfl⟩
 have hNb:mg a*2^te a*2^149<2^y:=by
  rw[Nat.mul_assoc,←Nat.pow_add]
  calc mg a*2^(te a+149)<2^24*2^(te a+149):=Nat.mul_lt_mul_of_pos_right hm24 (Nat.two_pow_pos _)
   _=2^(24+(te a+149)):=(Nat.pow_add ..).symm
   _<=2^y:=Nat.pow_le_pow_right dE oM
 have hrD:rD<Ieee.double.infRung:=by
  obtain⟨T,hT⟩:∃T:Nat,T=2000:=⟨_,rfl⟩
  refine hd2.lt (t:=T) (by rw[In];exact Nat.mul_le_mul_right _ oM) ?_;have e2:(2:Nat)*2^e=2^(e+1):=by rw[Nat.pow_succ,Nat.mul_comm]
  rw[e2,←Nat.pow_add,←Nat.pow_add];have hpow:=Nat.two_pow_pos (e+1+(e+1));have l1:mg a*2^te a*2^149*2^(e+1+(e+1))<2^y*2^(e+1+(e+1)):=Nat.mul_lt_mul_of_pos_right hNb hpow;have l2:4*(2^y*2^(e+1+(e+1)))<=2^(52+T+(52+T)):=by
   rw[←Nat.pow_add];have:(4:Nat)=2^2:=rfl;rw[this,←Nat.pow_add];exact Nat.pow_le_pow_right dE oM
  exact Nat.lt_of_lt_of_le (Nat.mul_lt_mul_of_pos_left l1 dE) l2
 obtain⟨mD,tD,hrd,hmD,-⟩:=Ey Ieee.double false rD hrD;rw[CU]at hmD;rw[ED]at hrd;obtain⟨s,hs9⟩:∃s:Nat,s=925:=⟨_,rfl⟩
 have hnear:=Df 23 (-149) mD (-1074+(tD:Int)) dE tD s oM;rw[hmD]at hnear;have hq:(2:Nat)^s=2*2^e:=by
  rw[show s=e+1 by omega,Nat.pow_succ,Nat.mul_comm]
 rw[hq]at hnear;have hfin:=KH (mg a) (te a) rD _ (Nat.pos_of_ne_zero h0) hm24 _ _ rfl _ e rfl oM rfl hd2 hnear;have hlt:BR 23 (-149) mD (-1074+(tD:Int))<2139095040:=by
  obtain⟨T,hT⟩:∃T:Nat,T=250:=⟨_,rfl⟩
  refine hfin.lt (t:=T) oM ?_;have l2:4*2^y<=2^(23+T)*2^(23+T):=by
   rw[←Nat.pow_add];have:(4:Nat)=2^2:=rfl;rw[this,←Nat.pow_add];exact Nat.pow_le_pow_right dE oM
  exact Nat.lt_of_lt_of_le (Nat.mul_lt_mul_of_pos_left hNb dE) l2
 refine⟨rW,rD,mD,tD,_,hw1,hw3,?_,hrD,hrd,?_,hlt,?_⟩
 ·rw[hd1,Nat.min_eq_left (Nat.le_of_lt hrD)]
 ·rw[AX,Cz,Bz,GL]
 ·rw[Gl];exact hfin
theorem X7{l:List BO}{n:Int}{k:Nat}(h:n=(k:Int))(hk:k<l.length):Ce l n=l[k].kind:=by
 subst h;unfold Ce;rw[Int.toNat_natCast,List.getElem?_eq_getElem hk];rfl
theorem Vp{l:List Sl}{n:Int}{k:Nat}(h:n=(k:Int))(hk:k<l.length):slotT l n=l[k].ty:=by
 subst h;unfold slotT;rw[Int.toNat_natCast,List.getElem?_eq_getElem hk];rfl
theorem O6(C:Nat)(v0 v1 v2 v3:Value)(c:Cd)(hk:B0 c)(n:Int)(m:Ty)(w:World)(hc:C0 w C v0 v1 v2 v3 c)(hp:n=1->Ak m.par c.sign.length=true):
 Calls prog 132 #[.pointer (some ⟨C,0,none⟩),.int .i64 n,.int .i64 9,Dp m] w fun e w'=>e=.returned (.bool (n==0||(n==1&&Ce c.sign m.par==2)))/\Below w.heap.size w w':=by
 obtain⟨hcc,hcv⟩:=hc;have c1:=hcc.at 0 rfl;rw[Nat.zero_add]at c1;have hC:=A3 c1;simp only at hC;have n1:C≠w.heap.size:=oM;obtain⟨K,P⟩:=m;unfold Dp;simp only at hp ⊢;have f1:(w.alloc (.cells #[.int .i64 K,.int .i64 P] 69)).cell? ⟨C,0,none⟩=some v0:=kc (A0 _ _) c1;by_cases h0:n=0
 ·subst h0;clear hp hcv hcc;go_enter func132,ntmps132;go_wp2;refine rG (fun v=>v.cell? ⟨C,0,none⟩=some v0) fun hHeld=>?_;refine Tc 0 1 2 ?_;refine Kd 3 4 5 6 ?_;refine Kd 7 8 9 10 ?_;refine Kd 11 12 13 14 ?_;refine D7 15 ?_;refine D7 16 ?_;refine Tb 17 18 ?_;refine wpAnyH_done kR ?_ _;go_wp2;go_ret;exact⟨rfl,bel (A0 _ _) (A5 _)⟩
 have h0':(n==0)=false:=by simpa using h0
 by_cases h1:n=1
 ·subst h1;obtain⟨k,hxk,hk2⟩:=CZ (hp rfl);have hT:=X7 hxk hk2;subst hxk;have hr:=hcv.sign;obtain⟨p,q,rfl,hrr⟩:=hcv.sign;obtain⟨b,o,rfl,hx⟩:=hr.at hk2;have x1:=hx.at 1 rfl;have hb:=A3 x1;simp only at hb;have n2:b≠w.heap.size:=oM;have HB:=hk.signL;obtain⟨T,hT'⟩:∃T,c.sign[k].kind=T:=⟨_,rfl⟩
  rw[hT']at x1 hT;rw[hT];obtain⟨N,hN⟩:∃N,c.sign.length=N:=⟨_,rfl⟩
  rw[hN]at c1 HB hk2 f1;have f2:(w.alloc (.cells #[.int .i64 K,.int .i64 (k:Int)] 69)).cell? ⟨b,o+k*3+1,none⟩=some (.int .i64 T):=kc (A0 _ _) x1;have i1:(0:Int)<=(k:Int):=oM;have i2:(k:Int)<(N:Int):=oM;clear hp hcv hcc hr hrr hx hT hT' hN h0 hk;go_enter func132,ntmps132;go_wp2;refine rG (fun v=>v.cell? ⟨C,0,none⟩=some (.slice (some ⟨b,o,none⟩) N q)/\v.cell? ⟨b,o+k*3+1,none⟩=some (.int .i64 T)/\v.cell? ⟨w.heap.size,1,none⟩=some (.int .i64 (k:Int))) fun hHeld=>?_;refine Tf 0 1 2 3 4 5 ?_;refine Tf 6 7 8 9 10 11 ?_;refine Tf 12 13 14 15 16 17 ?_;refine AI 18 ?_;refine wpAnyH_done kR ?_ _;go_wp2;go_ret;exact⟨A7 sM,bel (A0 _ _) (A5 _)⟩
 ·have h1':(n==1)=false:=by simpa using h1
  clear hp hcv hcc h0 h1;go_enter func132,ntmps132;go_wp2;refine rG (fun v=>v.cell? ⟨C,0,none⟩=some v0) fun hHeld=>?_;refine Tf 0 1 2 3 4 5 ?_;refine Kd 6 7 8 9 ?_;refine Kd 10 11 12 13 ?_;refine D7 14 ?_;refine D7 15 ?_;refine Tc 16 17 18 ?_;refine wpAnyH_done kR ?_ _;go_wp2;go_ret;exact⟨A7 (by simp[h0',h1']),bel (A0 _ _) (A5 _)⟩
theorem O7(C:Nat)(v0 v1 v2 v3:Value)(c:Cd)(hk:B0 c)(n:Int)(m:Ty)(w:World)(hc:C0 w C v0 v1 v2 v3 c):
 Calls prog 132 #[.pointer (some ⟨C,0,none⟩),.int .i64 n,.int .i64 10,Dp m] w fun e w'=>e=.returned (.bool (Ak n c.slots.length&&decide (slotT c.slots n=m)))/\Below w.heap.size w w':=by
 obtain⟨hcc,hcv⟩:=hc;have c1:=hcc.at 2 rfl;rw[Nat.zero_add]at c1;have hC:=A3 c1;simp only at hC;have n1:C≠w.heap.size:=oM;have HB:=hk.slotsL;have K1:=Dd n c.slots.length;have hr:=hcv.slots;obtain⟨p,q,rfl,hrr⟩:=hcv.slots;obtain⟨X,hX⟩:∃X,Ak n c.slots.length=X:=⟨_,rfl⟩
 simp only[hX]at K1;rw[hX];obtain⟨K,P⟩:=m;unfold Dp;simp only;cases X
 ·clear hr hrr hcc hcv;obtain⟨N,hN⟩:∃N,c.slots.length=N:=⟨_,rfl⟩
  rw[hN]at K1 c1 HB;have HK:Hid (∀w,Calls prog 128 #[.int .i64 n,.int .i64 N] w fun e w'=>e=.returned (.bool false)/\w'=w):=K1;clear hN K1 hX hk;have f1:(w.alloc (.cells #[.int .i64 K,.int .i64 P] 69)).cell? ⟨C,2,none⟩=some (.slice p N q):=kc (A0 _ _) c1;go_enter func132,ntmps132;go_wp2;refine rG (fun v=>v.cell? ⟨C,2,none⟩=some (.slice p N q)) fun hHeld=>?_;exact Zck
 ·obtain⟨k,hnk,hkl⟩:=CZ hX;rw[Vp hnk hkl];obtain⟨b,o,hp,hx⟩:=hr.at hkl;subst hp;subst hnk;have x0:=hx.at 0 rfl;have x1:=hx.at 1 rfl;rw[Nat.add_zero]at x0;have hbl:=A3 x0;simp only at hbl;have n2:b≠w.heap.size:=oM;obtain⟨T,hT⟩:∃T,c.slots[k].ty=T:=⟨_,rfl⟩
  rw[hT]at x0 x1 ⊢;obtain⟨D,E⟩:=T;simp only at x0 x1;rw[VA];obtain⟨N,hN⟩:∃N,c.slots.length=N:=⟨_,rfl⟩
  rw[hN]at K1 c1 HB hkl;have HK:Hid (∀w,Calls prog 128 #[.int .i64 (k:Int),.int .i64 N] w fun e w'=>e=.returned (.bool true)/\w'=w):=K1;have f1:(w.alloc (.cells #[.int .i64 K,.int .i64 P] 69)).cell? ⟨C,2,none⟩=some (.slice (some ⟨b,o,none⟩) N q):=kc (A0 _ _) c1;have f2:(w.alloc (.cells #[.int .i64 K,.int .i64 P] 69)).cell? ⟨b,o+k*5,none⟩=some (.int .i64 D):=kc (A0 _ _) x0;have f3:(w.alloc (.cells #[.int .i64 K,.int .i64 P] 69)).cell? ⟨b,o+k*5+1,none⟩=some (.int .i64 E):=kc (A0 _ _) x1;have i1:(0:Int)<=(k:Int):=oM;have i2:(k:Int)<(N:Int):=oM;clear hN K1 hX hr hrr hcc hcv hx hT hk;cases hl:(D==K)<;>cases hq:(E==P)
  all_goals
   go_enter func132,ntmps132;go_wp2;refine rG (fun v=>v.cell? ⟨C,2,none⟩=some (.slice (some ⟨b,o,none⟩) N q)/\v.cell? ⟨b,o+k*5,none⟩=some (.int .i64 D)/\v.cell? ⟨b,o+k*5+1,none⟩=some (.int .i64 E)/\v.cell? ⟨w.heap.size,0,none⟩=some (.int .i64 K)/\v.cell? ⟨w.heap.size,1,none⟩=some (.int .i64 P)) fun hHeld=>?_;refine Tf 0 1 2 3 4 5 ?_;clear hHeld;refine Ao 6 fun K hK=>?_;go_simp;(go_at_call 128;refine(HK.out _).mono ?_;rintro e w1 ⟨rfl,rfl⟩);try(go_wp2_with fail)
   refine An hK fun hHeld=>?_;clear hK K;refine Tf 7 8 9 10 11 12 ?_;refine Tf 13 14 15 16 17 18 ?_;refine AI 19 ?_;refine wpAnyH_done kR ?_ _;go_wp2;go_ret;exact⟨A7 (by simp[hl,hq]),bel (A0 _ _) (A5 _)⟩
theorem QX(C:Nat)(v0 v1 v2 v3:Value)(c:Cd)(hk:B0 c)(n l:Int)(m:Ty)(w:World)(hc:C0 w C v0 v1 v2 v3 c)(hp:l=9->Ak m.par c.sign.length=true):
 Calls prog 132 #[.pointer (some ⟨C,0,none⟩),.int .i64 n,.int .i64 l,Dp m] w fun e w'=>e=.returned (.bool (FO c n l m))/\Below w.heap.size w w':=by
 unfold FO;by_cases h8:l=8
 ·subst h8;rw[if_pos rfl];have HK:Hid (∀w,Calls prog 129 #[.int .i64 n] w fun e w'=>e=.returned (.bool (CF n))/\w'=w):=Hi n;unfold Dp;clear hp hc;go_enter func132,ntmps132;go_wp2_with(go_at_call 129;refine(HK.out _).mono ?_;rintro e w1 ⟨rfl,rfl⟩);go_ret;exact⟨rfl,A0 _ _⟩
 rw[if_neg h8];by_cases h9:l=9
 ·subst h9;rw[if_pos rfl];exact O6 C v0 v1 v2 v3 c hk n m w hc fun _=>hp rfl
 rw[if_neg h9];by_cases h10:l=10
 ·subst h10;rw[if_pos rfl];exact O7 C v0 v1 v2 v3 c hk n m w hc
 rw[if_neg h10];have h8':(l==8)=false:=by simpa using h8
 have h9':(l==9)=false:=by simpa using h9
 have h10':(l==10)=false:=by simpa using h10
 clear h8 h9 h10 hp;by_cases h11:l=11
 ·subst h11;rw[if_pos rfl];have K1:=Dd n c.sign.length;have HB:=hk.signL;obtain⟨hcc,hcv⟩:=hc;have c1:=hcc.at 0 rfl;rw[Nat.zero_add]at c1;have hC:=A3 c1;simp only at hC;have n1:C≠w.heap.size:=oM;obtain⟨p,q,rfl,hrr⟩:=hcv.sign;obtain⟨X,hX⟩:∃X,Ak n c.sign.length=X:=⟨_,rfl⟩
  simp only[hX]at K1;rw[hX];obtain⟨N,hN⟩:∃N,c.sign.length=N:=⟨_,rfl⟩
  rw[hN]at K1 c1 HB;have HK:Hid (∀w,Calls prog 128 #[.int .i64 n,.int .i64 N] w fun e w'=>e=.returned (.bool X)/\w'=w):=K1;clear hN K1 hX hrr hcc hcv hk h8' h9' h10';unfold Dp;go_enter func132,ntmps132;exact Zfk
 rw[if_neg h11];have h11':(l==11)=false:=by simpa using h11
 clear h11 hc;unfold Dp;go_enter func132,ntmps132;go_wp2;go_ret;exact⟨rfl,A0 _ _⟩
theorem KX(C:Nat)(v0 v1 v2 v3:Value)(c:Cd)(hk:B0 c)(b o:Nat)(i:Au)(l:Int)(m:Ty)(w:World)(hc:C0 w C v0 v1 v2 v3 c)(hi:Aa w b o (DP i))(h0:0<=i.bits)(h1:i.bits<4294967296)(hp:l=9->Ak m.par c.sign.length=true):
 Calls prog 95 #[.pointer (some ⟨C,0,none⟩),.pointer (some ⟨b,o,none⟩),.int .i64 l,Dp m] w fun e w'=>e=.returned (.bool (Bv c i l m))/\Below w.heap.size w w':=by
 have e5:=hi.at 5 rfl;have e6:=hi.at 6 rfl;have hb:=A3 e5;simp only at hb;have n1:b≠w.heap.size:=oM;have K1:=Iz i.bits h0 h1;have K2:=fun w h=>QX C v0 v1 v2 v3 c hk i.n l m w h hp;unfold Bv;obtain⟨X,hX⟩:∃X,Cj i.bits=X:=⟨_,rfl⟩
 obtain⟨Y,hY⟩:∃Y,FO c i.n l m=Y:=⟨_,rfl⟩
 simp only[hX]at K1 ⊢;simp only[hY]at K2 ⊢;obtain⟨bt,hbt⟩:∃x,i.bits=x:=⟨_,rfl⟩
 obtain⟨n,hn⟩:∃x,i.n=x:=⟨_,rfl⟩
 rw[hbt]at e6 K1 ⊢;rw[hn]at e5 K2 ⊢;have HK:Hid (∀w,Calls prog 130 #[.int .u32 bt] w fun e w'=>e=.returned (.bool X)/\w'=w):=K1;obtain⟨K,P⟩:=m;unfold Dp at K2 ⊢;simp only at K2 ⊢;have HN:Hid (∀w,C0 w C v0 v1 v2 v3 c->Calls prog 132 #[.pointer (some ⟨C,0,none⟩),.int .i64 n,.int .i64 l,.agg #[.int .i64 K,.int .i64 P]] w fun e w'=>e=.returned (.bool Y)/\Below w.heap.size w w'):=K2;have f5:(w.alloc (.cells #[.int .i64 K,.int .i64 P] 69)).cell? ⟨b,o+5,none⟩=some (.int .i64 n):=kc (A0 _ _) e5;have f6:(w.alloc (.cells #[.int .i64 K,.int .i64 P] 69)).cell? ⟨b,o+6,none⟩=some (.int .u32 bt):=kc (A0 _ _) e6;have HC0:Hid (C0 w C v0 v1 v2 v3 c):=hc;clear K1 K2 hX hY hbt hn hi hp h0 h1 hk hc;by_cases h7:l=7
 ·subst h7;rw[if_pos rfl];clear HN;cases hz:(n==0)
  all_goals
   go_enter func95,ntmps95;go_wp2_with(go_at_call 130;refine(HK.out _).mono ?_;rintro e w1 ⟨rfl,rfl⟩);go_ret;exact⟨A7 (by simp[hz]),A0 _ _⟩
 rw[if_neg h7];have h7':(l==7)=false:=by simpa using h7
 clear h7 HK;cases hz:(bt==0)
 ·go_enter func95,ntmps95;go_wp2;refine rG (fun v=>v.cell? ⟨b,o+5,none⟩=some (.int .i64 n)/\v.cell? ⟨b,o+6,none⟩=some (.int .u32 bt)) fun hHeld=>?_;refine Tf 0 1 2 3 4 5 ?_;refine Kd 6 7 8 9 ?_;refine Kd 10 11 12 13 ?_;refine Tb 14 15 ?_;refine wpAnyH_done kR ?_ _;go_wp2;go_ret;exact⟨A7 (by simp[hz]),bel (A0 _ _) (A5 _)⟩
 ·go_enter func95,ntmps95;go_wp2;have HC:Hid (∀v,Below (w.alloc (.cells #[.int .i64 K,.int .i64 P] 69)).heap.size (w.alloc (.cells #[.int .i64 K,.int .i64 P] 69)) v->v.cell? ⟨b,o+5,none⟩=some (.int .i64 n)/\v.cell? ⟨b,o+6,none⟩=some (.int .u32 bt)/\v.cell? ⟨w.heap.size,0,none⟩=some (.int .i64 K)/\v.cell? ⟨w.heap.size,1,none⟩=some (.int .i64 P)):=
   fun v hv=>⟨kc hv f5,kc hv f6,kc hv sG,kc hv sG⟩
  refine rG (fun v=>v.cell? ⟨b,o+5,none⟩=some (.int .i64 n)/\v.cell? ⟨b,o+6,none⟩=some (.int .u32 bt)/\v.cell? ⟨w.heap.size,0,none⟩=some (.int .i64 K)/\v.cell? ⟨w.heap.size,1,none⟩=some (.int .i64 P)) fun hHeld=>?_;refine Tf 0 1 2 3 4 5 ?_;refine Tf 6 7 8 9 10 11 ?_;refine AI 12 ?_;clear hHeld;refine Ao 13 fun K hK=>?_;go_simp;(go_at_call 132;refine(HN.out _ ((HC0.out.below (A0 _ _)).below (A5 _))).mono ?_;rintro e w1 ⟨rfl,hb1⟩;have HB1:=bel (A5 _) hb1;obtain⟨y0,y1,y2,y3⟩:=HC.out w1 HB1);try(go_wp2_with fail)
  refine An hK fun hHeld=>?_;clear hK K;refine Tb 14 15 ?_;refine wpAnyH_done kR ?_ _;go_wp2;go_ret;exact⟨A7 (by simp[hz]),bel (A0 _ _) HB1⟩
theorem OK(a:Int)(h0:0<=a)(h1:a<4294967296)(w:World):
 Calls prog 158 #[.int .u32 a] w fun e w'=>e=.returned (.tuple #[.bool (decide (2147483648<=a)),.int .i64 (a/8388608%256),.int .i64 (a%8388608)])/\w'=w:=by
 exact Zeo
theorem Gx{k:IntKind}{a b:Int}(h:a=b):Ending.returned (.int k a)=.returned (.int k b):=by rw[h]
theorem FU(a:Int)(h0:0<=a)(h1:a<4294967296)(w:World):
 Calls prog 134 #[.int .u32 a] w fun e w'=>e=.returned (.int .i64 (DA a))/\w'=w:=by
 by_cases c1:a/8388608%256=255
 ·by_cases c2:a%8388608=0
  ·have hc:DA a=4:=by unfold DA;rw[if_pos c1,if_pos c2]
   exact ZT
  ·have hc:DA a=5:=by unfold DA;rw[if_pos c1,if_neg c2]
   exact ZT
 ·by_cases c2:a/8388608%256=0
  ·by_cases c3:a%8388608=0
   ·have hc:DA a=1:=by unfold DA;rw[if_neg c1,if_pos c2,if_pos c3]
    exact ZT
   ·have hc:DA a=2:=by unfold DA;rw[if_neg c1,if_pos c2,if_neg c3]
    exact ZT
  ·have hc:DA a=3:=by unfold DA;rw[if_neg c1,if_neg c2]
   exact ZT
theorem XO(a:Int)(h0:0<=a)(h1:a<4294967296)(w:World):
 Calls prog 107 #[.int .i64 a] w fun e w'=>e=.returned (.bool (nan a))/\w'=w:=by
 go_enter func107,ntmps107;go_wp2;go_ret;exact⟨rfl,rfl⟩
theorem NH(a:Int)(h0:0<=a)(h1:a<4294967296)(hn:nan a=true)(w:World):
 Calls prog 134 #[.int .u32 a] w fun e w'=>e=.returned (.int .i64 5)/\w'=w:=by
 have:=FU a h0 h1 w;rwa[Po a hn h0 h1]at this
theorem Cn(a:Int)(h0:0<=a)(h1:a<4294967296)(w:World):
 Calls prog 101 #[.int .u32 a] w fun e w'=>e=.returned (.int .u32 (canon a))/\w'=w:=by
 cases hn:nan a
 ·have hc:canon a=a:=by unfold canon;simp[hn]
  have h5:(DA a==5)=false:=by have:=Pp a hn h0 h1;simpa using this
  rw[hc];clear hc hn;go_enter func101,ntmps101;go_wp2_with(go_at_call 134;refine(FU _ h0 h1 _).mono ?_;rintro e w' ⟨rfl,rfl⟩);go_ret;exact⟨rfl,rfl⟩
 ·have hc:canon a=2143289344:=by unfold canon;simp[hn]
  rw[hc];clear hc;go_enter func101,ntmps101;go_wp2_with(go_at_call 134;refine(NH _ h0 h1 hn _).mono ?_;rintro e w' ⟨rfl,rfl⟩);go_ret;exact⟨rfl,rfl⟩
theorem EL(a:Int)(h0:0<=a)(h1:a<4294967296)(w:World):
 Calls prog 68 #[.int .i64 a] w fun e w'=>e=.returned (.int .i64 (canon a))/\w'=w:=by
 cases hn:nan a
 ·have hc:canon a=a:=by unfold canon;simp[hn]
  exact Zej
 ·have hc:canon a=2143289344:=by unfold canon;simp[hn]
  exact Zej
def PM:Option Nat->Int
 |some r=>r
 |none=>2143289344
def CC(a b:Int):Int:=PM (Ieee.single.add a.toNat b.toNat)
def Is(a b:Int):Int:=PM (Ieee.single.sub a.toNat b.toNat)
def DR(a b:Int):Int:=PM (Ieee.single.mul a.toNat b.toNat)
def EF(a b:Int):Int:=PM (Ieee.single.div a.toNat b.toNat)
def Cv(a:Int):Int:=PM (Ieee.single.sqrt a.toNat)
def En(n:Int):Int:=(Ieee.single.nearest (decide (n<0)) n.natAbs 0:Nat)
def Ge(a:Int):Int:=canon (if 2147483648<=a then a-2147483648 else a+2147483648)
def NY(a:Int):Int:=canon (a%2147483648)
def TZ(a b:Int):Option Ordering:=Ieee.single.order a.toNat b.toNat
def FK(a b:Int):Int:=match TZ a b with
 |none=>2143289344
 |some .lt=>a
 |some .gt=>b
 |some .eq=>if 2147483648<=a then a else b
def Gd(a b:Int):Int:=match TZ a b with
 |none=>2143289344
 |some .lt=>b
 |some .gt=>a
 |some .eq=>if 2147483648<=a then b else a
def FP(a b:Int):Bool:=TZ a b==some .lt
def feq(a b:Int):Bool:=TZ a b==some .eq
def NZ(a:Int):Bool:=decide (a%2147483648<2139095040)
def FY(c a b:Int):Int:=if nan c||c%2147483648==0 then canon b else canon a
theorem Uf(s:Bool)(r:Nat):rg (wd s r)=min r 2139095040:=by
 unfold rg wd;split<;>omega
theorem Kq(d:Ieee.Datum)(h:d.isNaN=false):rg (Ieee.single.write d)<=2139095040:=by
 cases d with
 |number s m e=>show rg (Ieee.single.nearest s m e)<=_;rw[AX,GL,Uf];omega
 |infinity s=>show rg (wd s 2139095040)<=_;rw[Uf];omega
 |nan s t=>simp[Ieee.Datum.isNaN]at h
theorem Qq{d e f:Ieee.Datum}(h:d.sum e=some f):f.isNaN=false:=by
 cases d<;>cases e<;>simp[Ieee.Datum.sum]at h<;>first|(subst h;rfl)|(obtain⟨_,rfl⟩:=h;rfl)
theorem U6{d e f:Ieee.Datum}(h:d.product e=some f):f.isNaN=false:=by
 cases d<;>cases e<;>simp[Ieee.Datum.product]at h<;>first|(subst h;rfl)|(obtain⟨_,rfl⟩:=h;rfl)
theorem U7{k:Nat}{d e f:Ieee.Datum}(h:d.quotient k e=some f):f.isNaN=false:=by
 cases d<;>cases e<;>simp[Ieee.Datum.quotient]at h
 ·split at h
  ·split at h
   ·cases h
   ·cases h;rfl
  ·cases h;rfl
 ·subst h;rfl
 ·subst h;rfl
theorem Uh{k:Nat}{d f:Ieee.Datum}(h:d.root k=some f):f.isNaN=false:=by
 cases d<;>simp[Ieee.Datum.root]at h
 ·split at h
  ·cases h;rfl
  ·split at h
   ·cases h
   ·simp only[Option.some.injEq]at h;subst h;rfl
 ·obtain⟨-,rfl⟩:=h;rfl
theorem Gk{o:Option Ieee.Datum}{r:Nat}(h:o.map Ieee.single.write=some r)(k:∀f,o=some f->f.isNaN=false):rg r<=2139095040/\r<4294967296:=by
 have lt:=Ieee.single.map_write_lt h;cases o with
 |none=>simp at h
 |some d=>simp only[Option.map_some,Option.some.injEq]at h;subst h;exact⟨Kq d (k d rfl),lt⟩
theorem Kt{x y r:Nat}(h:Ieee.single.add x y=some r):rg r<=2139095040/\r<4294967296:=Gk h fun _ q=>Qq q
theorem LQ{x y r:Nat}(h:Ieee.single.sub x y=some r):rg r<=2139095040/\r<4294967296:=Gk h fun _ q=>Qq q
theorem Lj{x y r:Nat}(h:Ieee.single.mul x y=some r):rg r<=2139095040/\r<4294967296:=Gk h fun _ q=>U6 q
theorem Kz{x y r:Nat}(h:Ieee.single.div x y=some r):rg r<=2139095040/\r<4294967296:=Gk h fun _ q=>U7 q
theorem IZ{x r:Nat}(h:Ieee.single.sqrt x=some r):rg r<=2139095040/\r<4294967296:=Gk h fun _ q=>Uh q
theorem PH(r:Nat):nan (r:Int)=decide (2139095040<rg r):=by unfold nan rg;rw[decide_eq_decide];omega
theorem C7{r:Nat}(h:rg r<=2139095040):canon (r:Int)=r:=by
 unfold canon;rw[PH];simp;omega
theorem CT{r:Nat}(h:2139095040<rg r):canon (r:Int)=2143289344:=by
 unfold canon;rw[PH];simp;omega
theorem I3(x y t:Nat):2139095040<rg ((Question.nanBits .f32 x y).cut t)/\(Question.nanBits .f32 x y).cut t<4294967296:=by
 have e:(Question.nanBits .f32 x y).cut t=t%2*2147483648+2139095040+1+t/2%8388607:=rfl;exact Zcv
theorem Mb(x t:Nat):2139095040<rg ((Question.nanConv .f32 x).cut t)/\(Question.nanConv .f32 x).cut t<4294967296:=by
 have e:(Question.nanConv .f32 x).cut t=t%2*2147483648+2139095040+1+t/2%8388607:=rfl;exact Zcv
theorem Il(m:Bool)(x y t:Nat):2139095040<rg ((Question.nanMinMax .f32 m x y).cut t)/\(Question.nanMinMax .f32 m x y).cut t<4294967296:=by
 have e:(Question.nanMinMax .f32 m x y).cut t=t%2*2147483648+2139095040+1+t/2%8388607:=rfl;exact Zcv
section
variable {P : Program} (w : World)
theorem D6(op:BinOp)(t:TypeId)(k:FloatKind)(x y:Nat)(hop:op=.add\/op=.sub\/op=.mul\/op=.quo)(h:floatBits op k x y=none):
 (binOp op t (.float k x) (.float k y)).run P w=.ok (.float k ((Question.nanBits k x y).cut (w.tape w.drawn (.nanBits k x y)))) w.drew:=by
 rcases hop with rfl|rfl|rfl|rfl<;>simp only[floatBits]at h<;>simp[binOp,Op.floatArith,h,choose,Sem.run,Question.forced]
end
theorem IG(o:Option Nat)(h:∀r,o=some r->r<4294967296):0<=PM o/\PM o<4294967296:=by
 cases o with
 |none=>decide
 |some r=>have:=h r rfl;show 0<=(r:Int)/\(r:Int)<_;omega
theorem Pv(a b:Int):0<=CC a b/\CC a b<4294967296:=IG _ fun _ h=>(Kt h).2
theorem WC(a b:Int):0<=Is a b/\Is a b<4294967296:=IG _ fun _ h=>(LQ h).2
theorem Dn(a b:Int):0<=DR a b/\DR a b<4294967296:=IG _ fun _ h=>(Lj h).2
theorem Wx(a b:Int):0<=EF a b/\EF a b<4294967296:=IG _ fun _ h=>(Kz h).2
theorem To(a:Int):0<=Cv a/\Cv a<4294967296:=IG _ fun _ h=>(IZ h).2
theorem Da{a b c:World}(h:Below a.heap.size a b)(k:Below b.heap.size b c):Below a.heap.size a c:=h.trans (k.mono h.size)
theorem Ch(w:World):Below w.heap.size w w:=Below.refl _ _
theorem SL(w:World):Below w.heap.size w w.drew:=(Below.refl _ _).drew
theorem R0(a:Int)(w:World):(callFunc 189 #[.int .u32 a]).run prog w=.ok (.value (.float .f32 a.toNat)) w:=by
 rw[run_callFunc_extern (e:=Extern.MathFloatBits.float32frombits) func189 kR kR kR kR];rfl
theorem Y8(b:Nat)(w:World):(callFunc 163 #[.float .f32 b]).run prog w=.ok (.value (.int .u32 b)) w:=by
 rw[run_callFunc_extern (e:=Extern.MathFloatBits.float32bits) func163 kR kR kR kR];rfl
theorem Ca(a:Int)(h0:0<=a)(h1:a<4294967296)(w:World):
 Calls prog 162 #[.int .u32 a] w fun e w'=>e=.returned (.float .f32 a.toNat)/\w'=w:=by
 have hx:=R0 a w;go_enter func162,ntmps162;go_wp2;go_ret;exact⟨rfl,rfl⟩
theorem By(b:Nat)(h1:b<4294967296)(w:World):
 Calls prog 140 #[.float .f32 b] w fun e w'=>e=.returned (.int .u32 (canon b))/\w'=w:=by
 have hx:=Y8 b w;go_enter func140,ntmps140;exact Zfj
theorem Pj(a:Int)(h0:0<=a)(h1:a<4294967296)(b:Int)(g0:0<=b)(g1:b<4294967296)(w:World):
 Calls prog 142 #[.int .u32 a,.int .u32 b] w fun e w'=>e=.returned (.int .u32 (CC a b))/\Below w.heap.size w w':=by
 unfold CC;cases hr:Ieee.single.add a.toNat b.toNat with
 |none=>
  have hx:=D6 (P:=prog) w .add 208 .f32 a.toNat b.toNat sM hr;have hn:=I3 a.toNat b.toNat (w.tape w.drawn (.nanBits .f32 a.toNat b.toNat));generalize (Question.nanBits .f32 a.toNat b.toNat).cut (w.tape w.drawn (.nanBits .f32 a.toNat b.toNat))=z at *;have hc:=CT hn.1;have hz:=hn.2;clear hr hn;go_enter func142,ntmps142;exact ZA
 |some z=>
  have hx:=run_float_arith (P:=prog) w .add 208 .f32 a.toNat b.toNat z hr;have hn:=Kt hr;have hc:=C7 hn.1;have hz:=hn.2;clear hr hn;go_enter func142,ntmps142;exact Zbv
theorem Y4(a:Int)(h0:0<=a)(h1:a<4294967296)(b:Int)(g0:0<=b)(g1:b<4294967296)(w:World):
 Calls prog 172 #[.int .u32 a,.int .u32 b] w fun e w'=>e=.returned (.int .u32 (Is a b))/\Below w.heap.size w w':=by
 unfold Is;cases hr:Ieee.single.sub a.toNat b.toNat with
 |none=>
  have hx:=D6 (P:=prog) w .sub 208 .f32 a.toNat b.toNat sM hr;have hn:=I3 a.toNat b.toNat (w.tape w.drawn (.nanBits .f32 a.toNat b.toNat));generalize (Question.nanBits .f32 a.toNat b.toNat).cut (w.tape w.drawn (.nanBits .f32 a.toNat b.toNat))=z at *;have hc:=CT hn.1;have hz:=hn.2;clear hr hn;go_enter func172,ntmps172;exact ZA
 |some z=>
  have hx:=run_float_arith (P:=prog) w .sub 208 .f32 a.toNat b.toNat z hr;have hn:=LQ hr;have hc:=C7 hn.1;have hz:=hn.2;clear hr hn;go_enter func172,ntmps172;exact Zbv
theorem Li(a:Int)(h0:0<=a)(h1:a<4294967296)(b:Int)(g0:0<=b)(g1:b<4294967296)(w:World):
 Calls prog 139 #[.int .u32 a,.int .u32 b] w fun e w'=>e=.returned (.int .u32 (DR a b))/\Below w.heap.size w w':=by
 unfold DR;cases hr:Ieee.single.mul a.toNat b.toNat with
 |none=>
  have hx:=D6 (P:=prog) w .mul 208 .f32 a.toNat b.toNat sM hr;have hn:=I3 a.toNat b.toNat (w.tape w.drawn (.nanBits .f32 a.toNat b.toNat));generalize (Question.nanBits .f32 a.toNat b.toNat).cut (w.tape w.drawn (.nanBits .f32 a.toNat b.toNat))=z at *;have hc:=CT hn.1;have hz:=hn.2;clear hr hn;go_enter func139,ntmps139;exact ZA
 |some z=>
  have hx:=run_float_arith (P:=prog) w .mul 208 .f32 a.toNat b.toNat z hr;have hn:=Lj hr;have hc:=C7 hn.1;have hz:=hn.2;clear hr hn;go_enter func139,ntmps139;exact Zbv
theorem Wp(a:Int)(h0:0<=a)(h1:a<4294967296)(b:Int)(g0:0<=b)(g1:b<4294967296)(w:World):
 Calls prog 173 #[.int .u32 a,.int .u32 b] w fun e w'=>e=.returned (.int .u32 (EF a b))/\Below w.heap.size w w':=by
 unfold EF;cases hr:Ieee.single.div a.toNat b.toNat with
 |none=>
  have hx:=D6 (P:=prog) w .quo 208 .f32 a.toNat b.toNat sM hr;have hn:=I3 a.toNat b.toNat (w.tape w.drawn (.nanBits .f32 a.toNat b.toNat));generalize (Question.nanBits .f32 a.toNat b.toNat).cut (w.tape w.drawn (.nanBits .f32 a.toNat b.toNat))=z at *;have hc:=CT hn.1;have hz:=hn.2;clear hr hn;go_enter func173,ntmps173;exact ZA
 |some z=>
  have hx:=run_float_arith (P:=prog) w .quo 208 .f32 a.toNat b.toNat z hr;have hn:=Kz hr;have hc:=C7 hn.1;have hz:=hn.2;clear hr hn;go_enter func173,ntmps173;exact Zbv
theorem Hj(n:Nat)(h:n<2^31):n^^^2^31=2^31+n:=by
 apply Nat.eq_of_testBit_eq;intro i;rw[Nat.testBit_xor,Nat.testBit_two_pow];rcases Nat.lt_trichotomy i 31 with c|c|c
 ·rw[Nat.testBit_two_pow_add_gt c,decide_eq_false (show¬ (31=i) by omega),Bool.xor_false]
 ·subst c;rw[Nat.testBit_two_pow_add_eq];simp
 ·have e1:n.testBit i=false:=Nat.testBit_lt_two_pow (Nat.lt_of_lt_of_le h (Nat.pow_le_pow_right dE oM));have e2:(2^31+n).testBit i=false:=Nat.testBit_lt_two_pow (Nat.lt_of_lt_of_le (show 2^31+n<2^32 by omega) (Nat.pow_le_pow_right dE oM));rw[e1,e2,decide_eq_false (show¬ (31=i) by omega),Bool.xor_false]
theorem Nk(a:Int)(h0:0<=a)(h1:a<4294967296):bits .xor .u32 a 2147483648=if 2147483648<=a then a-2147483648 else a+2147483648:=by
 rw[u32_xor a _ h0 h1 dE dE,show(2147483648:Int).toNat=2^31 from rfl];by_cases c:2147483648<=a
 ·rw[if_pos c];have e:=Hj (a.toNat-2^31) oM;rw[show 2^31+(a.toNat-2^31)=a.toNat by omega]at e;rw[←e,Nat.xor_assoc,Nat.xor_self,Nat.xor_zero];omega
 ·rw[if_neg c,Hj _ oM];omega
theorem Xi(a:Int)(h0:0<=a)(h1:a<4294967296)(w:World):
 Calls prog 166 #[.int .u32 a] w fun e w'=>e=.returned (.int .u32 (Ge a))/\w'=w:=by
 unfold Ge;have e1:=Nk a h0 h1;have hb:0<=(if 2147483648<=a then a-2147483648 else a+2147483648)/\(if 2147483648<=a then a-2147483648 else a+2147483648)<4294967296:=by split<;>omega
 generalize (if 2147483648<=a then a-2147483648 else a+2147483648)=z at *;go_enter func166,ntmps166;go_wp2_with(go_at_call 101;refine(Cn _ hb.1 hb.2 _).mono ?_;rintro e w' ⟨rfl,rfl⟩);go_ret;exact⟨rfl,rfl⟩
theorem W7(a:Int)(h0:0<=a)(h1:a<4294967296)(w:World):
 Calls prog 167 #[.int .u32 a] w fun e w'=>e=.returned (.int .u32 (NY a))/\w'=w:=by
 unfold NY;have e1:=JR a h0 h1;go_enter func167,ntmps167;exact Zfj
theorem TI(a:Int)(h0:0<=a)(h1:a<4294967296)(b:Int)(g0:0<=b)(g1:b<4294967296)(w:World):
 Calls prog 176 #[.int .u32 a,.int .u32 b] w fun e w'=>e=.returned (.bool (FP a b))/\w'=w:=by
 go_enter func176,ntmps176;go_wp2_with(go_at_call 162;refine(Ca _ oM oM _).mono ?_;rintro e w' ⟨rfl,rfl⟩);go_ret;exact⟨rfl,rfl⟩
theorem Ta(a:Int)(h0:0<=a)(h1:a<4294967296):NZ a=((DA a != 4)&&(DA a != 5)):=by
 unfold NZ DA;by_cases c:a/8388608%256=255
 ·rw[if_pos c];have:¬ (a%2147483648<2139095040):=oM;by_cases d:a%8388608=0<;>simp[this,d]
 ·rw[if_neg c];have:a%2147483648<2139095040:=oM;simp only[this,decide_true];split<;>(try split)<;>simp
theorem M9(a k:Int)(hk:DA a=k)(h0:0<=a)(h1:a<4294967296)(w:World):
 Calls prog 134 #[.int .u32 a] w fun e w'=>e=.returned (.int .i64 k)/\w'=w:=by
 subst hk;exact FU a h0 h1 w
theorem O0(a:Int)(h0:0<=a)(h1:a<4294967296)(w:World):
 Calls prog 170 #[.int .u32 a] w fun e w'=>e=.returned (.bool (NZ a))/\w'=w:=by
 rw[Ta a h0 h1];have hc:DA a=4\/DA a=5\/DA a=1\/DA a=2\/DA a=3:=by
  unfold DA;split<;>split<;>(try split)<;>simp
 rcases hc with hc|hc|hc|hc|hc<;>rw[hc]
 all_goals(
  go_enter func170,ntmps170;go_wp2_with(go_at_call 134;refine(M9 _ _ hc h0 h1 _).mono ?_;rintro e w' ⟨rfl,rfl⟩);go_ret
  exact⟨rfl,rfl⟩)
theorem Td(n:Int):canon ((floatOfInt .f32 n:Nat):Int)=En n:=C7 (Kq (.number (decide (n<0)) n.natAbs 0) rfl)
theorem Tg(n:Int):floatOfInt .f32 n<4294967296:=Ieee.single.write_lt (.number (decide (n<0)) n.natAbs 0)
theorem Te(n:Int):0<=En n/\En n<4294967296:=⟨Int.natCast_nonneg _,by have:=Ieee.single.write_lt (.number (decide (n<0)) n.natAbs 0);exact Int.ofNat_lt.2 this⟩
theorem Tn(n:Int)(h0: -9223372036854775808<=n)(h1:n<=9223372036854775807)(w:World):
 Calls prog 110 #[.int .i64 n] w fun e w'=>e=.returned (.int .u32 (En n))/\w'=w:=by
 have hx:=Td n;have hl:=Tg n;go_enter func110,ntmps110;go_wp2_with(go_at_call 140;refine(By _ hl _).mono ?_;rintro e w' ⟨rfl,rfl⟩);go_ret;exact⟨rfl,rfl⟩
theorem IU(c:Int)(e0:0<=c)(e1:c<4294967296)(a:Int)(h0:0<=a)(h1:a<4294967296)(b:Int)(g0:0<=b)(g1:b<4294967296)(w:World):
 Calls prog 144 #[.int .u32 c,.int .u32 a,.int .u32 b] w fun e w'=>e=.returned (.int .u32 (FY c a b))/\w'=w:=by
 have hs:FY c a b=if DA c=1\/DA c=5 then canon b else canon a:=by
  unfold FY nan DA;by_cases c1:c/8388608%256=255
  ·by_cases c2:c%8388608=0
   ·have k1:¬ (2139095040<c%2147483648):=oM;have k2:¬ (c%2147483648=0):=oM;simp[c1,c2,k1,k2]
   ·have k1:2139095040<c%2147483648:=oM;simp[c1,c2,k1]
  ·by_cases c2:c/8388608%256=0
   ·by_cases c3:c%8388608=0
    ·have k2:c%2147483648=0:=oM;simp[c2,c3,k2]
    ·have k1:¬ (2139095040<c%2147483648):=oM;have k2:¬ (c%2147483648=0):=oM;simp[c2,c3,k1,k2]
   ·have k1:¬ (2139095040<c%2147483648):=oM;have k2:¬ (c%2147483648=0):=oM;simp[c1,c2,k1,k2]
 rw[hs];have hc:DA c=4\/DA c=5\/DA c=1\/DA c=2\/DA c=3:=by
  unfold DA;split<;>split<;>(try split)<;>simp
 rcases hc with hc|hc|hc|hc|hc<;>rw[hc]
 all_goals(
  go_enter func144,ntmps144;go_wp2_with(first
   |(go_at_call 134;refine(M9 _ _ hc e0 e1 _).mono ?_;rintro e w' ⟨rfl,rfl⟩)
   |(go_at_call 101;refine(Cn _ oM oM _).mono ?_;rintro e w' ⟨rfl,rfl⟩))
  go_ret
  exact⟨rfl,rfl⟩)
section
variable {P : Program} (w : World)
theorem LJ(ts:Array TypeId)(t:TypeId)(x y:Nat)(h:Ieee.single.order x y=none):
 (Builtin.min_ ts t #[.float .f32 x,.float .f32 y]).run P w=.ok (.float .f32 ((Question.nanMinMax .f32 false x y).cut (w.tape w.drawn (.nanMinMax .f32 false x y)))) w.drew:=by
 have h':FloatKind.f32.format.order x y=none:=h;simp[Builtin.min_,Builtin.min2,h',choose,Sem.run,Question.forced]
theorem LI(ts:Array TypeId)(t:TypeId)(x y:Nat)(h:Ieee.single.order x y=none):
 (Builtin.max_ ts t #[.float .f32 x,.float .f32 y]).run P w=.ok (.float .f32 ((Question.nanMinMax .f32 true x y).cut (w.tape w.drawn (.nanMinMax .f32 true x y)))) w.drew:=by
 have h':FloatKind.f32.format.order x y=none:=h;simp[Builtin.max_,Builtin.max2,h',choose,Sem.run,Question.forced]
theorem P2(ts:Array TypeId)(t:TypeId)(x y:Nat)(h:Ieee.single.order x y=some .lt):(Builtin.min_ ts t #[.float .f32 x,.float .f32 y]).run P w=.ok (.float .f32 x) w:=by
 have h':FloatKind.f32.format.order x y=some .lt:=h;simp[Builtin.min_,Builtin.min2,h']
theorem P1(ts:Array TypeId)(t:TypeId)(x y:Nat)(h:Ieee.single.order x y=some .gt):(Builtin.min_ ts t #[.float .f32 x,.float .f32 y]).run P w=.ok (.float .f32 y) w:=by
 have h':FloatKind.f32.format.order x y=some .gt:=h;simp[Builtin.min_,Builtin.min2,h']
theorem P0(ts:Array TypeId)(t:TypeId)(x y:Nat)(h:Ieee.single.order x y=some .eq):(Builtin.min_ ts t #[.float .f32 x,.float .f32 y]).run P w=.ok (.float .f32 (if(Ieee.single.read x).neg then x else y)) w:=by
 have h':FloatKind.f32.format.order x y=some .eq:=h;have h2:FloatKind.f32.decode x=Ieee.single.read x:=rfl;simp[Builtin.min_,Builtin.min2,h',h2]
theorem OZ(ts:Array TypeId)(t:TypeId)(x y:Nat)(h:Ieee.single.order x y=some .lt):(Builtin.max_ ts t #[.float .f32 x,.float .f32 y]).run P w=.ok (.float .f32 y) w:=by
 have h':FloatKind.f32.format.order x y=some .lt:=h;simp[Builtin.max_,Builtin.max2,h']
theorem OY(ts:Array TypeId)(t:TypeId)(x y:Nat)(h:Ieee.single.order x y=some .gt):(Builtin.max_ ts t #[.float .f32 x,.float .f32 y]).run P w=.ok (.float .f32 x) w:=by
 have h':FloatKind.f32.format.order x y=some .gt:=h;simp[Builtin.max_,Builtin.max2,h']
theorem OX(ts:Array TypeId)(t:TypeId)(x y:Nat)(h:Ieee.single.order x y=some .eq):(Builtin.max_ ts t #[.float .f32 x,.float .f32 y]).run P w=.ok (.float .f32 (if(Ieee.single.read x).neg then y else x)) w:=by
 have h':FloatKind.f32.format.order x y=some .eq:=h;have h2:FloatKind.f32.decode x=Ieee.single.read x:=rfl;simp[Builtin.max_,Builtin.max2,h',h2]
end
theorem MH(x:Nat):(Ieee.single.read x).neg=ng x:=by
 rw[Cy];split
 ·rfl
 ·split
  ·rfl
  ·split<;>rfl
theorem Yq(a:Int)(h0:0<=a)(h1:a<4294967296):ng a.toNat=decide (2147483648<=a):=by
 unfold ng;by_cases c:2147483648<=a<;>simp[c]<;>omega
theorem Bq{x y:Nat}{o:Ordering}(h:Ieee.single.order x y=some o):rg x<=2139095040/\rg y<=2139095040:=by
 unfold Ieee.Format.order at h;constructor
 ·rcases Nat.lt_or_ge 2139095040 (rg x)with c|c
  ·rw[C3 x c]at h;cases hy:Ieee.single.read y<;>rw[hy]at h<;>simp[Ieee.Datum.order]at h
  ·exact c
 ·rcases Nat.lt_or_ge 2139095040 (rg y)with c|c
  ·rw[C3 y c]at h;cases hx:Ieee.single.read x<;>rw[hx]at h<;>simp[Ieee.Datum.order]at h
  ·exact c
theorem AR{a:Int}(h0:0<=a)(h:rg a.toNat<=2139095040):canon (max a 0)=a:=by
 have:=C7 h;rw[show((a.toNat:Nat):Int)=max a 0 by omega]at this;omega
theorem PF(a:Int)(h0:0<=a)(h1:a<4294967296)(b:Int)(g0:0<=b)(g1:b<4294967296)(w:World):
 Calls prog 143 #[.int .u32 a,.int .u32 b] w fun e w'=>e=.returned (.int .u32 (FK a b))/\Below w.heap.size w w':=by
 have ha:a.toNat<4294967296:=oM;have hb:b.toNat<4294967296:=oM;unfold FK TZ;rcases hr:Ieee.single.order a.toNat b.toNat with _|(_|_|_)<;>simp only []
 ·have hx:=LJ (P:=prog) w #[208,208] 208 a.toNat b.toNat hr;have hn:=Il false a.toNat b.toNat (w.tape w.drawn (.nanMinMax .f32 false a.toNat b.toNat));generalize (Question.nanMinMax .f32 false a.toNat b.toNat).cut (w.tape w.drawn (.nanMinMax .f32 false a.toNat b.toNat))=z at *;have hc:=CT hn.1;have hz:=hn.2;clear hr hn;go_enter func143,ntmps143;exact ZA
 ·have hx:=P2 (P:=prog) w #[208,208] 208 a.toNat b.toNat hr;have hca:=AR h0 (Bq hr).1;have hcb:=AR g0 (Bq hr).2;clear hr;go_enter func143,ntmps143;exact Zbr
 ·have hx:=P0 (P:=prog) w #[208,208] 208 a.toNat b.toNat hr;have hca:=AR h0 (Bq hr).1;have hcb:=AR g0 (Bq hr).2;rw[MH,Yq a h0 h1]at hx;clear hr;by_cases c:2147483648<=a<;>simp only[c,decide_true,decide_false,if_true,if_false,Bool.false_eq_true]at hx ⊢
  all_goals(
   go_enter func143,ntmps143;go_wp2_with(first
    |(go_at_call 162;refine(Ca _ oM oM _).mono ?_;rintro e w' ⟨rfl,rfl⟩)
    |(go_at_call 140;refine(By _ (by assumption) _).mono ?_;rintro e w' ⟨rfl,rfl⟩))
   go_ret
   exact⟨rfl,Ch _⟩)
 ·have hx:=P1 (P:=prog) w #[208,208] 208 a.toNat b.toNat hr;have hca:=AR h0 (Bq hr).1;have hcb:=AR g0 (Bq hr).2;clear hr;go_enter func143,ntmps143;exact Zbr
theorem Xg(a:Int)(h0:0<=a)(h1:a<4294967296)(b:Int)(g0:0<=b)(g1:b<4294967296)(w:World):
 Calls prog 174 #[.int .u32 a,.int .u32 b] w fun e w'=>e=.returned (.int .u32 (Gd a b))/\Below w.heap.size w w':=by
 have ha:a.toNat<4294967296:=oM;have hb:b.toNat<4294967296:=oM;unfold Gd TZ;rcases hr:Ieee.single.order a.toNat b.toNat with _|(_|_|_)<;>simp only []
 ·have hx:=LI (P:=prog) w #[208,208] 208 a.toNat b.toNat hr;have hn:=Il true a.toNat b.toNat (w.tape w.drawn (.nanMinMax .f32 true a.toNat b.toNat));generalize (Question.nanMinMax .f32 true a.toNat b.toNat).cut (w.tape w.drawn (.nanMinMax .f32 true a.toNat b.toNat))=z at *;have hc:=CT hn.1;have hz:=hn.2;clear hr hn;go_enter func174,ntmps174;exact ZA
 ·have hx:=OZ (P:=prog) w #[208,208] 208 a.toNat b.toNat hr;have hca:=AR h0 (Bq hr).1;have hcb:=AR g0 (Bq hr).2;clear hr;go_enter func174,ntmps174;exact Zbr
 ·have hx:=OX (P:=prog) w #[208,208] 208 a.toNat b.toNat hr;have hca:=AR h0 (Bq hr).1;have hcb:=AR g0 (Bq hr).2;rw[MH,Yq a h0 h1]at hx;clear hr;by_cases c:2147483648<=a<;>simp only[c,decide_true,decide_false,if_true,if_false,Bool.false_eq_true]at hx ⊢
  all_goals(
   go_enter func174,ntmps174;go_wp2_with(first
    |(go_at_call 162;refine(Ca _ oM oM _).mono ?_;rintro e w' ⟨rfl,rfl⟩)
    |(go_at_call 140;refine(By _ (by assumption) _).mono ?_;rintro e w' ⟨rfl,rfl⟩))
   go_ret
   exact⟨rfl,Ch _⟩)
 ·have hx:=OY (P:=prog) w #[208,208] 208 a.toNat b.toNat hr;have hca:=AR h0 (Bq hr).1;have hcb:=AR g0 (Bq hr).2;clear hr;go_enter func174,ntmps174;exact Zbr
theorem Ho(a:Nat)(ha:rg a<2139095040)(hs:ng a=false)(h0:mg a≠0):
 ∃r,Ieee.single.sqrt a=some (wd false r)/\D8 23 (mv a*2^149) r:=by
 unfold Ieee.Format.sqrt;rw[Bc a ha,hs];simp only[Ieee.Datum.root,if_neg h0,Bool.false_eq_true,if_false,Option.map_some,Ieee.Format.write];rw[AX,Cz,Bz];have hl:(mg a).log2<=23:=by
  have:(mg a).log2<24:=(Nat.log2_lt h0).2 (Mw a);omega
 generalize hi:(-149+(te a:Int))=i;generalize hm1:2*(23+2)-(mg a).log2=more1;generalize hmore:more1+((i-(more1:Int))%2).toNat=more;have hpar:(i-(more:Int))%2=0:=oM;have hmo:27<=more/\more<=51:=oM;generalize hn:mg a<<<more=n at *;have hlo:2^(mg a).log2<=mg a:=Nat.log2_self_le h0;have hn50:2^50<=n:=by
  rw[←hn,Nat.shiftLeft_eq]
  calc 2^50<=2^((mg a).log2+more):=Nat.pow_le_pow_right dE oM
   _=2^(mg a).log2*2^more:=Nat.pow_add ..
   _<=mg a*2^more:=Nat.mul_le_mul_right _ hlo
 have hrt:=FF n (n.log2/2+1) 0 oM (by
  have:n<2^(n.log2+1):=Nat.lt_log2_self;rw[Nat.zero_add,←Nat.pow_add]
  exact Nat.lt_of_lt_of_le this (Nat.pow_le_pow_right dE oM))
 generalize Ieee.Datum.rootFrom n (n.log2/2+1) 0=w at *;have hw:2^24<=w:=by
  rcases Nat.lt_or_ge w (2^24)with c|c
  ·exfalso;have:=Nat.mul_self_le_mul_self (show w+1<=2^24 from c);have e:(2:Nat)^24*2^24<2^50:=dE;omega
  ·exact c
 have big:23+2<=(2*w+(w*w != n).toNat).log2:=by
  apply(Nat.le_log2 oM).2;omega
 refine⟨_,rfl,?_⟩;obtain⟨x,hx⟩:∃x:Nat,(x:Int)=(i-(more:Int))/2+149:=⟨((i-(more:Int))/2+149).toNat,oM⟩
 have hnr:=GS 23 (-149) w n ((i-(more:Int))/2-1) dE hrt.1 hrt.2 big x oM;have e:n*(2^x*2^x)=mv a*2^149:=by
  rw[Gl,←hn,Nat.shiftLeft_eq,←Nat.pow_add,Nat.mul_assoc,Nat.mul_assoc,←Nat.pow_add,←Nat.pow_add];congr 2;omega
 rw[e]at hnr;exact hnr
theorem RJ(f:Ieee.Format)(hb:f.binade<=f.infRung)(x:Nat)(h:f.infRung<x%f.signWeight):f.read x=.nan (x/f.signWeight%2==1) (x%f.signWeight-f.infRung):=by
 unfold Ieee.Format.read;simp only [];rw[if_neg oM,if_neg oM,if_neg oM]
theorem JA(x y t:Nat):Ieee.double.infRung<(Question.nanBits .f64 x y).cut t%Ieee.double.signWeight:=by
 have e:(Question.nanBits .f64 x y).cut t=t%2*9223372036854775808+9218868437227405312+1+t/2%4503599627370495:=rfl;have e1:Ieee.double.infRung=9218868437227405312:=rfl;have e2:Ieee.double.signWeight=9223372036854775808:=rfl;have h2:t%2=0\/t%2=1:=oM;have h3:=Nat.mod_lt (t/2) (show 0<4503599627370495 by decide);rw[e,e1,e2];generalize t/2%4503599627370495=q at *;rcases h2 with h|h<;>rw[h]<;>omega
theorem NM(x t:Nat):Ieee.double.infRung<(Question.nanConv .f64 x).cut t%Ieee.double.signWeight:=JA 0 0 t
theorem Io(x:Nat)(h:Ieee.double.infRung<x%Ieee.double.signWeight):∃s f,FloatKind.f64.decode x=.nan s f:=⟨_,_,RJ Ieee.double dE x h⟩
theorem Ht(x:Nat)(h:Ieee.double.infRung<x%Ieee.double.signWeight):Ieee.double.sqrt x=none:=by
 obtain⟨s,f,e⟩:=Io x h;unfold Ieee.Format.sqrt;rw[show Ieee.double.read x=_ from e];rfl
theorem Pa(x:Nat)(h:2139095040<rg x):∃s f,FloatKind.f32.decode x=.nan s f:=⟨_,_,C3 x h⟩
section
variable {P : Program} (w : World)
theorem GC(src dst:TypeId)(s k:FloatKind)(b:Nat)(hs:(P.underlying src).isSome=true)(hd:P.underlying dst=some (.float k))(hk:s≠k)(h:∃g f,s.decode b=.nan g f):
 (convert src dst (.float s b)).run P w=.ok (.float k ((Question.nanConv k b).cut (w.tape w.drawn (.nanConv k b)))) w.drew:=by
 obtain⟨u,hs'⟩:=Option.isSome_iff_exists.1 hs;obtain⟨g,f,h⟩:=h;cases u<;>simp[convert,run_underlying hs',run_underlying hd,Conv.floatToFloat,hk,h,choose,Sem.run,Question.forced]
theorem Jn(x r:Nat)(h:Ieee.double.sqrt x=some r):(Extern.MathSqrt.sqrt #[.float .f64 x]).run P w=.ok (.float .f64 r) w:=by
 have h':FloatKind.f64.format.sqrt x=some r:=h;change Sem.run P (match FloatKind.f64.format.sqrt x with
  |some r=>pure (Value.float .f64 r)
  |none=>do pure (Value.float .f64 (←choose (.nanBits .f64 x x)))) w=_
 rw[h'];rfl
theorem Jm(x:Nat)(h:Ieee.double.sqrt x=none):(Extern.MathSqrt.sqrt #[.float .f64 x]).run P w=.ok (.float .f64 ((Question.nanBits .f64 x x).cut (w.tape w.drawn (.nanBits .f64 x x)))) w.drew:=by
 have h':FloatKind.f64.format.sqrt x=none:=h;change Sem.run P (match FloatKind.f64.format.sqrt x with
  |some r=>pure (Value.float .f64 r)
  |none=>do pure (Value.float .f64 (←choose (.nanBits .f64 x x)))) w=_
 rw[h'];simp[choose,Sem.run,Question.forced]
end
theorem Pb(a:Nat)(ha:a<4294967296):
 (2139095040<rg a/\Ieee.single.sqrt a=none)\/
 (∃x,floatToFloatBits .f32 a .f64=some x/\Ieee.double.sqrt x=none/\Ieee.single.sqrt a=none)\/
 (∃x y z,floatToFloatBits .f32 a .f64=some x/\Ieee.double.sqrt x=some y/\floatToFloatBits .f64 y .f32=some z/\Ieee.single.sqrt a=some z):=by
 have eself:wd (ng a) (rg a)=wd (ng a) (rg a):=rfl;rcases Nat.lt_trichotomy (rg a) 2139095040 with c|c|c
 ·right;have hf2f:∀r,Ieee.double.nearest (ng a) (mg a) (-149+(te a:Int))=Ieee.double.word (ng a) r->r<Ieee.double.infRung->floatToFloatBits .f32 a .f64=some (Ieee.double.word (ng a) r):=by
   intro r h1 h2;obtain⟨m,t,hrd,-,-⟩:=Ey Ieee.double (ng a) r h2;unfold floatToFloatBits;rw[if_neg dE,show FloatKind.f32.decode a=.number (ng a) (mg a) (-149+(te a:Int))from Bc a c];simp only [];have e1:FloatKind.f64.encode (.number (ng a) (mg a) (-149+(te a:Int)))=Ieee.double.word (ng a) r:=h1;rw[e1,show FloatKind.f64.decode (Ieee.double.word (ng a) r)=_ from hrd];rfl
  by_cases h0:mg a=0
  ·right;have hr0:rg a=0:=by unfold mg at h0;split at h0<;>omega
   have e0:a=wd (ng a) 0:=by unfold wd ng rg at *;by_cases d:a/2147483648%2=1<;>simp[d]<;>omega
   have hz:Ieee.double.nearest (ng a) (mg a) (-149+(te a:Int))=Ieee.double.word (ng a) 0:=by rw[h0];rfl
   have hinf:0<Ieee.double.infRung:=dE;obtain⟨m,t,hrd,hmt,-⟩:=Ey Ieee.double (ng a) 0 hinf;have hm:m=0:=by
    rw[F8]at hmt;rcases Nat.mul_eq_zero.1 hmt with e|e
    ·exact e
    ·exact absurd e (Nat.ne_of_gt (Nat.two_pow_pos t))
   subst hm;refine⟨_,Ieee.double.word (ng a) 0,a,hf2f 0 hz hinf,?_,?_,?_⟩
   ·unfold Ieee.Format.sqrt;rw[hrd];simp[Ieee.Datum.root,Ieee.Format.write,Ieee.Format.nearest]
   ·unfold floatToFloatBits;rw[if_neg dE,show FloatKind.f64.decode (Ieee.double.word (ng a) 0)=_ from hrd];simp only [];have e1:FloatKind.f32.encode (.number (ng a) 0 (Ieee.double.leastPlace+(t:Int)))=a:=by
     have:Ieee.single.nearest (ng a) 0 (Ieee.double.leastPlace+(t:Int))=wd (ng a) 0:=by
      simp only[Ieee.Format.nearest,if_true];rfl
     exact this.trans e0.symm
    rw[e1,show FloatKind.f32.decode a=_ from Bc a c];rfl
   ·unfold Ieee.Format.sqrt;rw[Bc a c,h0];simp only[Ieee.Datum.root,if_true,Option.map_some,Ieee.Format.write,Ieee.Format.nearest];exact congrArg some e0.symm
  ·cases hs:ng a
   ·right;obtain⟨rW,rD,mD,tD,r,h1,h2,h3,h4,h5,h6,h7,h8⟩:=Vr a c hs h0;obtain⟨r',k1,k2⟩:=Ho a c hs h0;have hrr:=h8.unique k2;subst hrr;have hf:=hf2f rW (by rw[hs];exact h1) h2;rw[hs]at hf;refine⟨_,_,wd false r,hf,h3,?_,k1⟩;unfold floatToFloatBits;rw[if_neg dE,show FloatKind.f64.decode (Ieee.double.word false rD)=_ from h5];simp only [];have e1:FloatKind.f32.encode (.number false mD (-1074+(tD:Int)))=wd false r:=h6;rw[e1,show FloatKind.f32.decode (wd false r)=_ from Bc _ (by rw[Uf];omega)];rfl
   ·left;obtain⟨r,h1,h2,h3⟩:=Ko (mg a) (te a) true (Mw a) (Yv a c);have hf:=hf2f r (by rw[hs];exact h1) h3;rw[hs]at hf;obtain⟨m,t,hrd,hmt,-⟩:=Ey Ieee.double true r h3;have hm:m≠0:=by
     intro e;subst e;rw[CU,h2,Nat.zero_mul]at hmt;exact absurd hmt.symm (Nat.ne_of_gt (Nat.mul_pos (Nat.pos_of_ne_zero h0) (Nat.two_pow_pos _)))
    refine⟨_,hf,?_,?_⟩
    ·unfold Ieee.Format.sqrt;rw[hrd];simp[Ieee.Datum.root,hm]
    ·unfold Ieee.Format.sqrt;rw[Bc a c,hs];simp[Ieee.Datum.root,h0]
 ·right;have hf:floatToFloatBits .f32 a .f64=some (Ieee.double.word (ng a) Ieee.double.infRung):=by
   unfold floatToFloatBits;rw[if_neg dE,show FloatKind.f32.decode a=_ from Ci a c];rfl
  have hrd:∀s,Ieee.double.read (Ieee.double.word s Ieee.double.infRung)=.infinity s:=dE;cases hs:ng a
  ·right;have e0:a=2139095040:=by unfold ng rg at *;simp at hs;omega
   rw[hs]at hf;refine⟨_,Ieee.double.word false Ieee.double.infRung,a,hf,?_,?_,?_⟩
   ·unfold Ieee.Format.sqrt;rw[hrd];rfl
   ·unfold floatToFloatBits;rw[if_neg dE,show FloatKind.f64.decode (Ieee.double.word false Ieee.double.infRung)=_ from hrd false,e0];rfl
   ·unfold Ieee.Format.sqrt;rw[Ci a c,hs,e0];rfl
  ·left;rw[hs]at hf;refine⟨_,hf,?_,?_⟩
   ·unfold Ieee.Format.sqrt;rw[hrd];rfl
   ·unfold Ieee.Format.sqrt;rw[Ci a c,hs];rfl
 ·left;refine⟨c,?_⟩;unfold Ieee.Format.sqrt;rw[C3 a c];rfl
theorem Jv(x:Nat)(w:World):(callFunc 196 #[.float .f64 x]).run prog w=((Extern.MathSqrt.sqrt #[.float .f64 x]).run prog w).andThen fun v w'=>.ok (.value v) w':=
 run_callFunc_extern (e:=Extern.MathSqrt.sqrt) func196 kR kR kR kR _ _
theorem Ot(x r:Nat)(h:Ieee.double.sqrt x=some r)(w:World):
 Calls prog 191 #[.float .f64 x] w fun e w'=>e=.returned (.float .f64 r)/\w'=w:=by
 have hx:=Jv x w;rw[Jn w x r h]at hx;simp only[Result.andThen]at hx;go_enter func191,ntmps191;go_wp2;go_ret;exact⟨rfl,rfl⟩
theorem IC(x:Nat)(h:Ieee.double.sqrt x=none)(w:World):
 Calls prog 191 #[.float .f64 x] w fun e w'=>(∃z,e=.returned (.float .f64 z)/\Ieee.double.infRung<z%Ieee.double.signWeight)/\Below w.heap.size w w':=by
 have hx:=Jv x w;rw[Jm w x h]at hx;simp only[Result.andThen]at hx;have hz:=JA x x (w.tape w.drawn (.nanBits .f64 x x));generalize (Question.nanBits .f64 x x).cut (w.tape w.drawn (.nanBits .f64 x x))=z at *;go_enter func191,ntmps191;go_wp2;go_ret;exact⟨⟨z,rfl,hz⟩,SL _⟩
theorem Jz(w:World)(b:Nat)(h:Ieee.double.infRung<b%Ieee.double.signWeight):
 ∃z:Nat,canon (z:Int)=2143289344/\z<4294967296/\(convert 235 208 (.float .f64 b)).run prog w=.ok (.float .f32 z) w.drew:=by
 refine⟨_,CT ?_,?_,GC (P:=prog) w 235 208 .f64 .f32 b (by rw[underlying235];rfl) underlying208 dE (Io b h)⟩
 ·exact(Mb _ _).1
 ·exact(Mb _ _).2
theorem Vq(a:Int)(h0:0<=a)(h1:a<4294967296)(w:World):
 Calls prog 165 #[.int .u32 a] w fun e w'=>e=.returned (.int .u32 (Cv a))/\Below w.heap.size w w':=by
 unfold Cv;rcases Pb a.toNat oM with⟨c,hr⟩|⟨x,hx,hq,hr⟩|⟨x,y,z,hx,hy,hz,hr⟩
 ·rw[hr];have e1:=GC (P:=prog) w 208 235 .f32 .f64 a.toNat Zhk underlying235 dE (Pa _ c);have hn1:=NM a.toNat (w.tape w.drawn (.nanConv .f64 a.toNat));generalize (Question.nanConv .f64 a.toNat).cut (w.tape w.drawn (.nanConv .f64 a.toNat))=z1 at *;have hq:=Ht z1 hn1;clear hr c hn1;go_enter func165,ntmps165;go_wp2_with(first
   |(go_at_call 162;refine(Ca _ oM oM _).mono ?_;rintro e w' ⟨rfl,rfl⟩)
   |(go_at_call 191;refine(IC _ hq _).mono ?_;rintro e w2 ⟨⟨z2,rfl,hz2⟩,hw2⟩;obtain⟨z3,hc,hz,e3⟩:=Jz w2 z2 hz2)
   |(go_at_call 140;refine(By _ hz _).mono ?_;rintro e w' ⟨rfl,rfl⟩))
  go_ret;exact⟨rfl,(Da (SL _) hw2).drew⟩
 ·rw[hr];have e1:=run_convert_float_float (P:=prog) w 208 235 .f32 .f64 a.toNat x Zhk underlying235 hx;clear hr hx;go_enter func165,ntmps165;go_wp2_with(first
   |(go_at_call 162;refine(Ca _ oM oM _).mono ?_;rintro e w' ⟨rfl,rfl⟩)
   |(go_at_call 191;refine(IC _ hq _).mono ?_;rintro e w2 ⟨⟨z2,rfl,hz2⟩,hw2⟩;obtain⟨z3,hc,hz,e3⟩:=Jz w2 z2 hz2)
   |(go_at_call 140;refine(By _ hz _).mono ?_;rintro e w' ⟨rfl,rfl⟩))
  go_ret;exact⟨rfl,hw2.drew⟩
 ·rw[hr];have hn:=IZ hr;have hc:=C7 hn.1;have hlt:=hn.2;have e1:=run_convert_float_float (P:=prog) w 208 235 .f32 .f64 a.toNat x Zhk underlying235 hx;have e2:=run_convert_float_float (P:=prog) w 235 208 .f64 .f32 y z (by rw[underlying235];rfl) underlying208 hz;clear hr hx hz hn;go_enter func165,ntmps165;go_wp2_with(first
   |(go_at_call 162;refine(Ca _ oM oM _).mono ?_;rintro e w' ⟨rfl,rfl⟩)
   |(go_at_call 191;refine(Ot _ _ hy _).mono ?_;rintro e w2 ⟨rfl,rfl⟩)
   |(go_at_call 140;refine(By _ hlt _).mono ?_;rintro e w' ⟨rfl,rfl⟩))
  go_ret;exact⟨rfl,Ch _⟩
theorem DT(a b:Int):compare a b=if a<b then .lt else if a=b then .eq else .gt:=rfl
theorem NL{a b:Int}(h:a<b):compare a b=.lt:=by rw[DT,if_pos h]
theorem NJ{a b:Int}(h:a=b):compare a b=.eq:=by rw[DT,if_neg oM,if_pos h]
theorem NK{a b:Int}(h:b<a):compare a b=.gt:=by rw[DT,if_neg oM,if_neg oM]
theorem QL(a b p:Int)(hp:0<p):compare (a*p) (b*p)=compare a b:=by
 rw[DT,DT];have h1:a*p<b*p↔a<b:=Int.mul_lt_mul_right hp;have h2:a*p=b*p↔a=b:=⟨fun h=>Int.eq_of_mul_eq_mul_right oM h,fun h=>by rw[h]⟩
 simp only[h1,h2]
theorem Ll{x:Nat}(h:rg x=2139095040):mv x=V 23 2139095040:=by unfold mv;rw[h]
theorem Z5{x:Nat}(h:rg x<2139095040):mv x<V 23 2139095040:=F1 23 h
theorem Vx{x:Nat}(h:rg x<2139095040): -(V 23 2139095040:Int)<sv x/\sv x<(V 23 2139095040:Int):=by
 have:=Z5 h;unfold sv sg;split<;>omega
theorem U0(x y:Nat):Ieee.single.order x y=if 2139095040<rg x\/2139095040<rg y then none else some (compare (sv x) (sv y)):=by
 unfold Ieee.Format.order;have hV:0<V 23 2139095040:=by have:=F1 23 (show 0<2139095040 by decide);omega
 rcases Nat.lt_trichotomy (rg x) 2139095040 with c|c|c
 ·rcases Nat.lt_trichotomy (rg y) 2139095040 with d|d|d
  ·rw[Bc x c,Bc y d,if_neg oM];simp only[Ieee.Datum.order];have hm:min (-149+(te x:Int)) (-149+(te y:Int))= -149+((min (te x) (te y):Nat):Int):=oM;rw[hm];have e1:(-149+(te x:Int)-(-149+((min (te x) (te y):Nat):Int))).toNat=te x-min (te x) (te y):=oM;have e2:(-149+(te y:Int)-(-149+((min (te x) (te y):Nat):Int))).toNat=te y-min (te x) (te y):=oM;rw[e1,e2];generalize hc:min (te x) (te y)=m;have s1:Ieee.signed (ng x) (mg x) (te x-m)*(2:Int)^m=sv x:=by
    rw[IX,show te x-m+m=te x by omega,←Gl];rfl
   have s2:Ieee.signed (ng y) (mg y) (te y-m)*(2:Int)^m=sv y:=by
    rw[IX,show te y-m+m=te y by omega,←Gl];rfl
   rw[←s1,←s2,QL _ _ _ (Int.pow_pos dE)]
  ·rw[Bc x c,Ci y d,if_neg oM];simp only[Ieee.Datum.order];have h:=Vx c;have e:sv y=sg (ng y) (V 23 2139095040):=by unfold sv;rw[Ll d]
   rw[e,DT];cases ng y
   ·rw[if_neg dE,if_pos ZH]
   ·rw[if_pos rfl,if_neg ZH,if_neg ZH]
  ·rw[C3 y d,Bc x c,if_pos (Or.inr d)];rfl
 ·rcases Nat.lt_trichotomy (rg y) 2139095040 with d|d|d
  ·rw[Ci x c,Bc y d,if_neg oM];simp only[Ieee.Datum.order];have h:=Vx d;have e:sv x=sg (ng x) (V 23 2139095040):=by unfold sv;rw[Ll c]
   rw[e,DT];cases ng x
   ·rw[if_neg dE,if_neg ZH,if_neg ZH]
   ·rw[if_pos rfl,if_pos ZH]
  ·rw[Ci x c,Ci y d,if_neg oM];simp only[Ieee.Datum.order];have e1:sv x=sg (ng x) (V 23 2139095040):=by unfold sv;rw[Ll c]
   have e2:sv y=sg (ng y) (V 23 2139095040):=by unfold sv;rw[Ll d]
   rw[e1,e2,DT];cases ng x<;>cases ng y
   ·rw[if_neg oM,if_pos rfl];rfl
   ·rw[if_neg Zgf,if_neg Zgf];rfl
   ·rw[if_pos Zgf];rfl
   ·rw[if_neg oM,if_pos rfl];rfl
  ·rw[C3 y d,Ci x c,if_pos (Or.inr d)];rfl
 ·rw[C3 x c,if_pos (Or.inl c)];cases Ieee.single.read y<;>rfl
theorem C4(a:Int)(h0:0<=a):(rg a.toNat:Int)=a%2147483648:=by unfold rg;omega
theorem ID(a:Int)(h0:0<=a):nan a=decide (2139095040<rg a.toNat):=by
 unfold nan;rw[decide_eq_decide];have:=C4 a h0;omega
theorem IH(a b:Int)(h0:0<=a)(g0:0<=b):TZ a b=if nan a=true\/nan b=true then none else some (compare (sv a.toNat) (sv b.toNat)):=by
 unfold TZ;rw[U0,ID a h0,ID b g0];simp only[decide_eq_true_eq]
theorem QY(a b:Int)(h0:0<=a)(g0:0<=b):FP a b=true↔nan a=false/\nan b=false/\sv a.toNat<sv b.toNat:=by
 unfold FP;rw[IH a b h0 g0];by_cases hn:nan a=true\/nan b=true
 ·rw[if_pos hn];simp;intro k1 k2;simp[k1,k2]at hn
 ·rw[if_neg hn];have hn':nan a=false/\nan b=false:=by simpa using hn
  rcases Int.lt_trichotomy (sv a.toNat) (sv b.toNat)with c|c|c
  ·rw[NL c];simp[hn',c]
  ·rw[NJ c];simp;omega
  ·rw[NK c];simp;omega
theorem Zp{x y:Nat}(h:sv x=sv y):rg x=rg y/\(ng x=ng y\/rg x=0):=by
 have hz:∀z,mv z=0->rg z=0:=by
  intro z hz;unfold mv at hz;rw[←F8 23]at hz;exact Sz 23 hz
 have C5:mv x=mv y/\(ng x=ng y\/mv x=0):=by
  unfold sv sg at h;cases hx:ng x<;>cases hy:ng y<;>rw[hx,hy]at h<;>simp only[if_true,if_false,Bool.false_eq_true]at h
  ·exact⟨oM,Or.inl rfl⟩
  ·exact⟨oM,Or.inr oM⟩
  ·exact⟨oM,Or.inr oM⟩
  ·exact⟨oM,Or.inl rfl⟩
 refine⟨Sz 23 C5.1,?_⟩;rcases C5.2 with e|e
 ·exact Or.inl e
 ·exact Or.inr (hz x e)
theorem E7(a:Int)(h0:0<=a)(h1:a<4294967296):a=(if ng a.toNat then 2147483648 else 0)+(rg a.toNat:Int):=by
 unfold ng rg;by_cases c:2147483648<=a
 ·have:a.toNat/2147483648%2=1:=oM;simp[this];omega
 ·have:a.toNat/2147483648%2=0:=oM;simp[this];omega
theorem XD{a b:Int}(h0:0<=a)(h1:a<4294967296)(g0:0<=b)(g1:b<4294967296)(hr:rg a.toNat=rg b.toNat)(hs:ng a.toNat=ng b.toNat):a=b:=by
 rw[E7 a h0 h1,E7 b g0 g1,hr,hs]
theorem Oy(a:Int)(h0:0<=a)(h1:a<4294967296):ng a.toNat=decide (2147483648<=a):=by
 unfold ng;by_cases c:2147483648<=a<;>simp[c]<;>omega
theorem Vw(d e:Ieee.Datum):d.sum e=e.sum d:=by
 cases d<;>cases e<;>simp only[Ieee.Datum.sum]
 ·rename_i s m i t n j;rw[Int.min_comm j i,Int.add_comm (Ieee.signed t n _),Bool.and_comm]
 ·rename_i s t;by_cases h:s=t
  ·rw[if_pos h,if_pos h.symm,h]
  ·rw[if_neg h,if_neg (fun k=>h k.symm)]
theorem JD(a b:Int):CC a b=CC b a:=by unfold CC Ieee.Format.add;rw[Vw]
def KY(a:Nat):Nat:=if 2147483648<=a then a-2147483648 else a+2147483648
theorem PP(a:Nat)(h:a<4294967296):rg (KY a)=rg a:=by unfold rg KY;split<;>omega
theorem Xj(a:Nat)(h:a<4294967296):ng (KY a)= !ng a:=by
 unfold ng KY;split
 ·rename_i c;have e1:a/2147483648%2=1:=oM;have e2:(a-2147483648)/2147483648%2=0:=oM;simp[e1,e2]
 ·rename_i c;have e1:a/2147483648%2=0:=oM;have e2:(a+2147483648)/2147483648%2=1:=oM;rw[e1,e2];rfl
theorem RI(a:Nat)(h:a<4294967296):Ieee.single.read (KY a)=(Ieee.single.read a).opposite:=by
 rw[Cy,Cy,PP a h,Xj a h];split
 ·rfl
 ·split
  ·rfl
  ·split<;>rfl
theorem Mo(a:Int)(h0:0<=a)(h1:a<4294967296)(hn:nan a=false):Ge a=(KY a.toNat:Nat):=by
 unfold Ge KY;have e:(if 2147483648<=a then a-2147483648 else a+2147483648)=((if 2147483648<=a.toNat then a.toNat-2147483648 else a.toNat+2147483648:Nat):Int):=by
  by_cases c:2147483648<=a
  ·rw[if_pos c,if_pos oM];omega
  ·rw[if_neg c,if_neg oM];omega
 rw[e];apply C7;have:=PP a.toNat oM;unfold KY at this;rw[this];rw[ID a h0]at hn;simpa using hn
theorem Mn(a:Int)(h0:0<=a)(h1:a<4294967296)(hn:nan a=true):Ge a=2143289344:=by
 unfold Ge canon;rw[Lo]at hn;have:nan (if 2147483648<=a then a-2147483648 else a+2147483648)=true:=by
  rw[Lo];split<;>omega
 rw[if_pos this]
theorem Px(a:Int)(h0:0<=a)(h1:a<4294967296):0<=Ge a/\Ge a<4294967296:=by
 have h:0<=(if 2147483648<=a then a-2147483648 else a+2147483648)/\(if 2147483648<=a then a-2147483648 else a+2147483648)<4294967296:=by split<;>omega
 exact Dy _ h.1 h.2

def dn(o:Option Nat):Nat:=match o with
 |some _=>0
 |none=>1
section
variable {P : Program} (w : World)
end
section
variable (w : World) (n : Nat)
@[go_sem] theorem alloc_drewN (o:Obj):(w.drewN n).alloc o=(w.alloc o).drewN n:=rfl
@[go_sem] theorem setCell_drewN (a:Addr) (v:Value):(w.drewN n).setCell a v=(w.setCell a v).drewN n:=rfl
end
theorem Bp{w:World}{a:Addr}{v:Value}(h:w.cell? a=some v):a.block<w.heap.size:=by
 rcases Nat.lt_or_ge a.block w.heap.size with c|c
 ·exact c
 ·have:w.heap[a.block]? =none:=Array.getElem?_eq_none c;simp[World.cell?,this]at h
theorem AG(w:World)(o:Obj):Below w.heap.size w (w.alloc o):=(Below.refl _ _).alloc (Nat.le_refl _) o
section
variable {w : World} {cs : List (Addr × Value)} {g : Nat} {x y : Value} {v v' : World}
end
def AE(w:World)(p:Option Addr)(n:Nat)(X:Nat->Value):Prop:=n=0\/∃b o,p=some ⟨b,o,none⟩/\∀i,i<n->w.cell? ⟨b,o+i,none⟩=some (X i)
theorem AE.below{w w':World}{p:Option Addr}{n:Nat}{X:Nat->Value}(h:AE w p n X)(k:Below w.heap.size w w'):AE w' p n X:=by
 rcases h with h|⟨b,o,e,h⟩
 ·exact .inl h
 ·exact .inr ⟨b,o,e,fun i hi=>(k.cell (Bp (h i hi))).trans (h i hi)⟩
theorem AE.congr{w:World}{p:Option Addr}{n:Nat}{X Y:Nat->Value}(h:AE w p n X)(e:∀i,i<n->X i=Y i):AE w p n Y:=by
 rcases h with h|⟨b,o,q,h⟩
 ·exact .inl h
 ·exact .inr ⟨b,o,q,fun i hi=>by rw[h i hi,e i hi]⟩
theorem RW{w w':World}{g:Nat}{t:TypeId}{n:Nat}{X:Nat->Value}(h:w.rowIs g t n X)(k:Below w.heap.size w w'):w'.rowIs g t n X:=h.of_block (k.block g h.lt)
theorem Tv:(prog.info? 43).map (fun i=>(i.zero,i.size,i.bytes))=some (some (.int .u32 0),1,4):=kR
theorem Lf(m:Nat)(h:m<=70368744177664)(w:World):(Instr.makeSlice 57 (.int .i64 m) (.int .i64 m)).run prog w=.ok (.slice (some ⟨w.heap.size,0,none⟩) m m) (w.alloc (.cells (madeCells #[.int .u32 0] m) 43)):=
 run_make_row' (P:=prog) 57 43 (.int .u32 0) 4 underlying57 Tv rfl .i64 .i64 m oM oM w

def nums(X:Nat->Int)(n:Nat):List Value:=(List.range n).map fun i=>.int .u32 (X i)
section
open Go.Maps (Keyed)
def hRI:Value->Option (DataW Value×List MemPlace):=fun v=>some (.held v,[])
def On(k:Nat):Lit:=.int .i64 (k:Int)
theorem TJ{a b:Nat}(h:On a=On b):a=b:=by
 unfold On at h;simp only[Lit.int.injEq,true_and]at h;omega
def Dv(w:World)(b n:Nat)(f:Nat->Option Value):Prop:=
 ∃D:DataW Value,w.ownsMap prog 3 hRI b n D/\∀k zd,D.atKey (On k) zd=match f k with |some v=>.held v|none=>zd
def Sm(f:Nat->Option Value)(k:Nat)(v:Value):Nat->Option Value:=fun j=>if j=k then some v else f j
theorem YV:Keyed prog 3:=Maps.int_keyed underlying3
theorem Mu{k:Nat}(h:k<=4611686018427387904):keyOf prog 3 (.int .i64 (k:Int))=some (On k):=
 Maps.keyOf_int_mk underlying3 (by
  have h1:IntKind.i64.min<=(0:Int):=dE;have h2:(4611686018427387904:Int)<=IntKind.i64.max:=dE;simp only[Lit.wf,Bool.and_eq_true,decide_eq_true_eq]
  omega)
theorem Dv.new(w:World):Dv (w.alloc (.map #[] 0)) w.heap.size 0 (fun _=>none):=
 ⟨_,World.ownsMap_made _ _ _ _,fun k zd=>rfl⟩
theorem Dv.block{w w':World}{b n:Nat}{f:Nat->Option Value}(h:Dv w b n f)(hb:w'.heap[b]? =w.heap[b]?):Dv w' b n f:=by
 obtain⟨D,⟨es,clock,h0,h1⟩,h2⟩:=h;exact⟨D,⟨es,clock,hb.trans h0,h1⟩,h2⟩
theorem Dv.lt{w:World}{b n:Nat}{f:Nat->Option Value}(h:Dv w b n f):b<w.heap.size:=by
 obtain⟨D,h1,_⟩:=h;exact h1.lt
theorem Dv.below{w w':World}{b n:Nat}{f:Nat->Option Value}(h:Dv w b n f)(k:Below w.heap.size w w'):Dv w' b n f:=h.block (k.block b h.lt)
theorem Dv.look1{w:World}{b n:Nat}{f:Nat->Option Value}(h:Dv w b n f){t e:TypeId}(ht:prog.underlying t=some (.map 3 e)){z:Value}(hz:(zeroValue e).run prog w=.ok z w){k:Nat}(hk:k<=4611686018427387904):
 (Instr.lookup t (.map (some b)) (.int .i64 (k:Int)) false).run prog w=.ok ((f k).getD z) w:=by
 obtain⟨D,h1,h2⟩:=h;obtain⟨v,ps,hrun,hv⟩:=h1.lookup YV ht hz (zd:=.held z) (zp:=[]) rfl (Mu hk);rw[hrun];simp only[hRI,Option.some.injEq,Prod.mk.injEq,h2]at hv;obtain⟨hv,-⟩:=hv;cases hf:f k with
 |none=>rw[hf]at hv;simp only[DataW.held.injEq]at hv;rw[hv];rfl
 |some u=>rw[hf]at hv;simp only[DataW.held.injEq]at hv;rw[hv];rfl
theorem YW(k:Nat):WideAt.IsKeyLit (On k):=by unfold On;simp[WideAt.IsKeyLit]
theorem Dv.put{w:World}{b n:Nat}{f:Nat->Option Value}(h:Dv w b n f)(hn:n<maxLen){t e:TypeId}(ht:prog.underlying t=some (.map 3 e)){k:Nat}(hk:k<=4611686018427387904)(v:Value):
 ∃w',(Instr.mapUpdate t (.map (some b)) (.int .i64 (k:Int)) v).run prog w=.ok () w'/\Dv w' b (n+1) (Sm f k v)/\w.grownBy w' (some b):=by
 obtain⟨D,h1,h2⟩:=h;obtain⟨w',hrun,r1,r2⟩:=h1.update YV ht hn (Mu hk) (d:=.held v) (ps:=[]) (val:=v) rfl;refine⟨w',hrun,⟨_,r1,fun j zd=>?_⟩,r2⟩;unfold Sm;by_cases e:j=k
 ·subst e;rw[Maps.atKey_put_same (h1.canon YV |>.elim fun es hes=>⟨es,hes.1⟩) (YW j)];simp
 ·rw[Maps.atKey_put_other (fun he=>e (TJ he)),h2,if_neg e]
end
end Go.Proofs.YtbinohkcolcbfaaGreat
