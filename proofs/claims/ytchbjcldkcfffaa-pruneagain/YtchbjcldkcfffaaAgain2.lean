import Derived.WalkKit
import Derived.WalkSpells
import Derived.Test.YtchbjcldkcfffaaRows
import Derived.WalkLawsBesides
import Ieee.Arith
import Derived.Laws.FloatBits
import Derived.Laws.FloatArith
import Derived.Below
import Derived.Laws.Externs
import Derived.Handy
import Derived.Deep.Draws
import Derived.Laws.ComplexArith
import Derived.Deep.RegionHeld3
import Derived.Deep.DeepCutAuto
import Derived.Deep.OwnRows
import Derived.OwnWalk
import Derived.Deep.QuietTactic
import Derived.BigQuiet
import Derived.Deep.AppendLies
import Derived.Test.YtchbjcldkcfffaaAgain1
import Derived.Shelf.Abstract
import Derived.Maps.AppendAt
import Derived.Laws.AppendOwnNone
import Derived.Maps.OwnSet
import Derived.Maps.OwnOps
import Derived.Maps.Ext
import Derived.ChangeKeysEq
import Derived.Deep.CutBlock
import Derived.Laws.EntriesVeiled
import Derived.DeepKeys4
namespace Go.Proofs.Ytchbjcldkcfffaa
open Go.RowKit Go.Proofs.Try
set_option linter.all false
set_option maxRecDepth 100000
set_option maxHeartbeats 16000000
theorem F5(a:Int)(k:Nat)(hk:k<32)(h0:0<=a)(h1:a<4294967296):bits .and .u32 a ((2^k-1:Nat):Int)=a%((2^k:Nat):Int):=by
 have hp:2^k<2^32:=Nat.pow_lt_pow_right oM hk;have hq:0<2^k:=Nat.two_pow_pos k;obtain⟨n,rfl⟩:=Int.eq_ofNat_of_zero_le h0;rw[u32_and _ _ h0 h1 oM oM,Int.toNat_natCast,Int.toNat_natCast,Nat.and_two_pow_sub_one_eq_mod];rfl
theorem Kv(a:Int)(h0:0<=a)(h1:a<4294967296):bits .and .u32 a 8388607=a%8388608:=F5 a 23 oM h0 h1
theorem Le(a:Int)(h0:0<=a)(h1:a<4294967296):bits .and .u32 a 255=a%256:=F5 a 8 oM h0 h1
theorem I1(a:Int)(h0:0<=a)(h1:a<4294967296):bits .and .u32 a 2147483648=if 2147483648<=a then 2147483648 else 0:=by
 rw[u32_and a _ h0 h1 oM oM,show(2147483648:Int).toNat=2^31 from rfl,nat_bit];split<;>omega
theorem F6(a:Int)(h0:0<=a)(h1:a<4294967296):(bits .and .u32 a 2147483648 != 0)=decide (2147483648<=a):=by
 rw[I1 a h0 h1];split<;>simp[*]
def FN(a:Int):Int:=
 if a/8388608%256=255 then(if a%8388608=0 then 4 else 5)else if a/8388608%256=0 then(if a%8388608=0 then 1 else 2)else 3
def I0(a:Int):Bool:=decide (2139095040<a%2147483648)
theorem JO(a:Int):I0 a=true↔2139095040<a%2147483648:=by unfold I0;simp
theorem JP(a:Int):I0 a=false↔a%2147483648<=2139095040:=by unfold I0;simp
theorem Jy(a:Int)(h:I0 a=true)(h0:0<=a)(h1:a<4294967296):FN a=5:=by
 rw[JO]at h;unfold FN;rw[if_pos oM,if_neg oM]
theorem Jz(a:Int)(h:I0 a=false)(h0:0<=a)(h1:a<4294967296):FN a≠5:=by
 rw[JP]at h;unfold FN;repeat' split
 all_goals omega
def Cj(a:Int):Int:=if 2147483648<=a then -1-(a-2147483648)else a
def Lm(k:Int):Int:=if k<0 then 2147483648+(-1-k)else k
def D1(a:Int):Int:=if I0 a then 2143289344 else a
def next(a:Int):Int:=if I0 a then 2143289344 else if a=2139095040 then a else Lm (Cj a+1)
def mk(m:Bool)(e f:Int):Int:=if m then e*8388608+f+2147483648 else e*8388608+f

def V(p k:Nat):Nat:=if k<2^p then k else(2^p+k%2^p)*2^(k/2^p-1)
def KY(p:Nat)(L:Int)(mag:Nat)(place:Int):Nat:=
 if mag=0 then 0 else
 (max (place+mag.log2-p) L-L).toNat*2^p+Ieee.Toward.even.cut false (mag<<<(place-max (place+mag.log2-p) L).toNat) (max (place+mag.log2-p) L-place).toNat
def ng(a:Nat):Bool:=a/2147483648%2==1
def R(n:Nat):Nat:=KY 23 (-149) n (-149)
section
variable {P : Program} (w : World)
end

section
variable {P : Program} (w : World)
end
section
variable {P : Program} (w : World)
end





def dn(o:Option Nat):Nat:=match o with
 |some _=>0
 |none=>1
section
variable {P : Program} (w : World)
end
section
variable (w : World) (n : Nat)
@[go_sem] theorem alloc_drewN (o:Obj):(w.drewN n).alloc o=(w.alloc o).drewN n:=rfl
@[go_sem] theorem setCell_drewN (a:Addr) (v:Value):(w.drewN n).setCell a v=(w.setCell a v).drewN n:=rfl
end


section
variable {w : World} {cs : List (Addr × Value)} {g : Nat} {x y : Value} {v v' : World}
end
def nk(m:Int):Nat:=23-m.toNat.log2

def Mp(w:World)(p:Option Addr)(n:Nat)(X:Nat->Value):Prop:=n=0\/∃b o,p=some ⟨b,o,none⟩/\∀i,i<n->w.cell? ⟨b,o+i,none⟩=some (X i)






def Mi(X:Nat->Int)(n:Nat):List Value:=(List.range n).map fun i=>.int .u32 (X i)
structure Ty where
 kind:Int
 par:Int
 deriving DecidableEq
structure Sl where
 ty:Ty
 keep:Bool
 bits:Int
 int_:Int
 deriving DecidableEq
structure Ab where
 op:Int
 d:Int
 a:Int
 b:Int
 c:Int
 n:Int
 bits:Int
 deriving DecidableEq
structure Cd where
 sign:List Ba
 regs:List Ty
 slots:List Sl
 list:List Ab
structure Rw where
 d:Int
 a:Int
 b:Int
 c:Int
 n:Int
 deriving DecidableEq
def A4(op:Int):Rw:=
 if op=1 then⟨1,0,0,0,7⟩
 else if op=2 then⟨2,0,0,0,8⟩
 else if op=3 then⟨6,5,0,0,0⟩
 else if 4<=op/\op<=10 then⟨4,5,5,0,0⟩
 else if 11<=op/\op<=14 then⟨4,5,0,0,0⟩
 else if op=15 then⟨4,5,5,5,0⟩
 else if op=16 then⟨1,1,2,0,0⟩
 else if op=17 then⟨1,2,0,0,0⟩
 else if op=18 then⟨2,1,0,0,0⟩
 else if 19<=op/\op<=20 then⟨1,3,0,0,0⟩
 else if op=21\/op=25 then⟨2,2,0,0,0⟩
 else if op=26 then⟨2,2,2,2,0⟩
 else if 22<=op/\op<=28 then⟨2,2,2,0,0⟩
 else if 29<=op/\op<=30 then⟨3,0,0,0,9⟩
 else if op=31 then⟨0,3,0,0,9⟩
 else if op=32 then⟨6,0,0,0,10⟩
 else if op=33 then⟨0,6,0,0,10⟩
 else if op=34 then⟨0,2,0,0,0⟩
 else if op=36 then⟨0,0,0,0,11⟩
 else⟨0,0,0,0,0⟩
def Au(op:Int):Bool:=decide (1<=op)&&decide (op<=37)
def Fa(op:Int):Bool:=decide (3<=op)&&decide (op<=15)
def C5(op:Int):Bool:=(decide (29<=op)&&decide (op<=33))||Fa op
def BF(n:Int)(k:Nat):Bool:=decide (0<=n)&&decide (n<(k:Int))
def CX(n:Int):Bool:=decide (0<=n)&&decide (n<=2147483647)
def DF(a:Int):Bool:=decide ((if I0 a then 2143289344 else a)=a)
def AP(t:Ty)(n:Nat):Bool:=if t.kind=1\/t.kind=2 then t.par==0 else if t.kind=3 then BF t.par n else false
def DO(s:Sl):Bool:=if s.ty.kind=2 then s.bits==0&&CX s.int_ else s.int_==0&&DF s.bits
def BI(s:Sl)(n:Nat):Bool:=AP s.ty n&&DO s
def Dr(l:List Ty)(n:Int):Ty:=if BF n l.length then(l[n.toNat]?).getD ⟨0,0⟩else⟨0,0⟩
def Fj(i:Ab)(r:Rw):Int:=if r.d=0 then i.a else i.d
def At(l:List Ty)(i:Ab)(r:Rw):Ty:=Dr l (Fj i r)
def DY(l:Int)(t m:Ty):Bool:=
 if l=1 then t.kind==1
 else if l=2 then t.kind==2
 else if l=3 then t.kind==3
 else if l=4 then t.kind==1||t.kind==3
 else if l=5 then decide (t=m)||(t.kind==1&&m.kind==3)
 else decide (t=m)
def Am(rs:List Ty)(l n:Int)(m:Ty):Bool:=if l=0 then n==0 else BF n rs.length&&DY l (Dr rs n) m
def EQ(ps:List Ba)(n:Int):Int:=((ps[n.toNat]?).map fun p=>p.kind).getD 0
def Eg(ss:List Sl)(n:Int):Ty:=((ss[n.toNat]?).map fun s=>s.ty).getD ⟨0,0⟩
def DU(c:Cd)(n l:Int)(m:Ty):Bool:=
 if l=8 then CX n
 else if l=9 then n==0||(n==1&&EQ c.sign m.par==2)
 else if l=10 then BF n c.slots.length&&decide (Eg c.slots n=m)
 else if l=11 then BF n c.sign.length
 else n==0
def Bt(c:Cd)(i:Ab)(l:Int)(m:Ty):Bool:=if l=7 then i.n==0&&DF i.bits else i.bits==0&&DU c i.n l m
def AR(c:Cd)(i:Ab)(r:Rw):Bool:=
 Am c.regs r.d i.d (At c.regs i r)&&(Am c.regs r.a i.a (At c.regs i r)&&(Am c.regs r.b i.b (At c.regs i r)&&(Am c.regs r.c i.c (At c.regs i r)&&Bt c i r.n (At c.regs i r))))
structure Bk where
 loop:Bool
 par:Int
 ahead:Nat
structure Wk where
 set:List Nat
 opens:List Bk
def Bc(s:Wk):Bool:=match s.opens with |b::_=>b.loop|[]=>false
def CS(s:Wk):Int:=match s.opens with |b::_=>b.par|[]=>0
def AC(c:Cd)(s:Wk)(i:Ab)(r:Rw):Bool:=
 if i.op=34\/i.op=36 then !Bc s&&decide (s.opens.length<64)
 else if i.op=35 then !s.opens.isEmpty&& !Bc s
 else if i.op=37 then Bc s
 else !Bc s||(C5 i.op&&decide (At c.regs i r=⟨3,CS s⟩))
def A8(i:Ab)(r:Rw):List Int:=(if r.a=0 then [] else [i.a])++((if r.b=0 then [] else [i.b])++(if r.c=0 then [] else [i.c]))
def BG(s:Wk):Wk:=match s.opens with
 |b::r=>⟨if b.loop then s.set else s.set.take b.ahead,r⟩
 |[]=>s
def C1(s:Wk)(i:Ab):Wk:=
 if i.op=34\/i.op=36 then⟨s.set,⟨i.op==36,i.n,s.set.length⟩::s.opens⟩else if i.op=35\/i.op=37 then BG s else s
def Cp(s:Wk)(i:Ab)(r:Rw):Wk:=if r.d≠0/\i.d.toNat∉s.set then⟨s.set++[i.d.toNat],s.opens⟩else s
def DE(s:Wk)(i:Ab)(r:Rw):Wk:=Cp (C1 s i) i r
def Ed(s:Wk)(i:Ab)(r:Rw):Bool:=(A8 i r).all fun n=>decide (n.toNat∈s.set)
def AM(c:Cd)(s:Wk)(i:Ab):Bool:=Au i.op&&(AR c i (A4 i.op)&&(AC c s i (A4 i.op)&&Ed s i (A4 i.op)))
def AK(s:Wk)(i:Ab):Wk:=DE s i (A4 i.op)
def HY(c:Cd):Wk->Nat->List Ab->Int×Int
 |s,k,[]=>if s.opens.isEmpty then(0,0)else(160,k)
 |s,k,i::r=>if AM c s i then HY c (AK s i) (k+1) r else(160,k)
def B0(c:Cd):Bool:=c.regs.all fun t=>AP t c.sign.length
def C0(c:Cd):Bool:=c.slots.all fun s=>BI s c.sign.length
def BL(c:Cd):Int:=
 if BV c.sign≠0 then BV c.sign
 else if 16384<c.regs.length\/32768<c.list.length then 181
 else if 4096<c.slots.length then 180
 else if B0 c&&C0 c then 0 else 160
def Aj(c:Cd):Int×Int:=if BL c≠0 then(BL c,-1)else HY c ⟨[],[]⟩ 0 c.list
def Ln:Nat->List Bk->Prop
 |_,[]=>True
 |n,b::r=>b.ahead<=n/\Ln b.ahead r
theorem Ln.mono:∀ {r:List Bk} {n m:Nat},Ln n r->n<=m->Ln m r
 |[],_,_,_,_=>trivial
 |b::r,n,m,h,k=>⟨Nat.le_trans h.1 k,h.2⟩
structure CZ(n:Nat)(s:Wk):Prop where
 nodup:s.set.Nodup
 lt:∀x∈s.set,x<n
 opens:Ln s.set.length s.opens
 nest:s.opens.length<=64
theorem CZ.start(n:Nat):CZ n ⟨[],[]⟩:=⟨List.nodup_nil,fun x h=>absurd h sM,trivial,Nat.zero_le _⟩
theorem CZ.leave{n:Nat}{s:Wk}(h:CZ n s):CZ n (BG s):=by
 obtain⟨X,O⟩:=s;cases O with
 |nil=>exact h
 |cons b r=>
  obtain⟨h1,h2,⟨h3,h4⟩,h5⟩:=h;simp only[BG];simp only at h1 h2 h3 h4 h5;split
  ·exact⟨h1,h2,h4.mono h3,by simp at h5 ⊢;omega⟩
  ·refine⟨List.Sublist.nodup (List.take_sublist _ _) h1,fun x hx=>h2 x (List.mem_of_mem_take hx),?_,by simp at h5 ⊢;omega⟩;simp only[List.length_take];rw[Nat.min_eq_left h3];exact h4
theorem CZ.turn{n:Nat}{s:Wk}{i:Ab}(h:CZ n s)(hm:i.op=34\/i.op=36->s.opens.length<64):CZ n (C1 s i):=by
 unfold C1;split
 ·rename_i e;exact⟨h.nodup,h.lt,⟨Nat.le_refl _,h.opens⟩,by have:=hm e;simp;omega⟩
 ·split
  ·exact h.leave
  ·exact h
theorem CZ.add{n:Nat}{s:Wk}{i:Ab}{r:Rw}(h:CZ n s)(hd:r.d≠0->i.d.toNat<n):CZ n (Cp s i r):=by
 unfold Cp;split
 ·rename_i e;refine⟨?_,fun x hx=>?_,h.opens.mono sM,h.nest⟩
  ·rw[List.nodup_append];refine⟨h.nodup,sM,fun a ha b hb=>?_⟩;simp at hb;subst hb;exact fun e'=>e.2 (e'▸ha)
  ·rcases List.mem_append.1 hx with hx|hx
   ·exact h.lt x hx
   ·simp at hx;subst hx;exact hd e.1
 ·exact h
theorem Ik:∀ {n:Nat} {l:List Nat},l.Nodup->(∀x∈l,x<n)->l.length<=n:=by
 intro n;induction n with
 |zero=>intro l _ h;cases l with
  |nil=>exact Nat.le_refl _
  |cons a t=>exact absurd (h a sM) (Nat.not_lt_zero _)
 |succ n ih=>
  intro l hd h;have h1:=ih (l:=l.erase n) (hd.erase n) fun x hx=>by
   have h2:=h x (List.mem_of_mem_erase hx);have h3:x≠n:=fun e=>by
    subst e;exact(List.Nodup.not_mem_erase hd) hx
   omega
  have h2:l.length<=(l.erase n).length+1:=by
   rw[List.length_erase];split<;>omega
  omega
theorem CZ.len{n:Nat}{s:Wk}(h:CZ n s):s.set.length<=n:=Ik h.nodup h.lt
theorem Bv{n:Int}{k:Nat}:BF n k=true↔0<=n/\n<(k:Int):=by unfold BF;simp
theorem Ag{rs:List Ty}{l n:Int}{m:Ty}(h:Am rs l n m=true)(hl:l≠0):0<=n/\n<(rs.length:Int):=by
 unfold Am at h;rw[if_neg hl]at h;simp only[Bool.and_eq_true]at h;exact Bv.1 h.1
theorem C4{c:Cd}{i:Ab}{r:Rw}(h:AR c i r=true):Am c.regs r.d i.d (At c.regs i r)=true:=by
 unfold AR at h;simp only[Bool.and_eq_true]at h;exact h.1
theorem C3{c:Cd}{i:Ab}{r:Rw}(h:AR c i r=true):Am c.regs r.a i.a (At c.regs i r)=true:=by
 unfold AR at h;simp only[Bool.and_eq_true]at h;exact h.2.1
theorem CG{c:Cd}{i:Ab}{r:Rw}(h:AR c i r=true):Am c.regs r.b i.b (At c.regs i r)=true:=by
 unfold AR at h;simp only[Bool.and_eq_true]at h;exact h.2.2.1
theorem CH{c:Cd}{i:Ab}{r:Rw}(h:AR c i r=true):Am c.regs r.c i.c (At c.regs i r)=true:=by
 unfold AR at h;simp only[Bool.and_eq_true]at h;exact h.2.2.2.1
theorem Ar{c:Cd}{s:Wk}{i:Ab}(h:AM c s i=true):Au i.op=true/\AR c i (A4 i.op)=true/\AC c s i (A4 i.op)=true/\Ed s i (A4 i.op)=true:=by
 unfold AM at h;simp only[Bool.and_eq_true]at h;exact h
theorem Ei{c:Cd}{s:Wk}{i:Ab}{r:Rw}(h:AC c s i r=true)(e:i.op=34\/i.op=36):s.opens.length<64:=by
 unfold AC at h;rw[if_pos e]at h;simp only[Bool.and_eq_true,decide_eq_true_eq]at h;exact h.2
theorem CZ.step{c:Cd}{s:Wk}{i:Ab}(h:CZ c.regs.length s)(t:AM c s i=true):CZ c.regs.length (AK s i):=by
 obtain⟨_,h2,h3,_⟩:=Ar t;refine(h.turn (Ei h3)).add fun hd=>?_;have:=Ag (C4 h2) hd;omega
theorem Hm(a:Int)(h0:0<=a)(h1:a<4294967296)(w:World):
 Calls prog 87 #[.int .u32 a] w fun e w'=>e=.returned (.tuple #[.bool (decide (2147483648<=a)),.int .i64 (a/8388608%256),.int .i64 (a%8388608)])/\w'=w:=by
 have e1:=F6 a h0 h1;have e2:=Le (a/8388608) oM oM;have e3:=Kv a h0 h1;go_enter func87,ntmps87;go_wp2
 go_ret3
 exact⟨rfl,rfl⟩
theorem Ey(a:Int)(h0:0<=a)(h1:a<4294967296)(w:World):
 Calls prog 85 #[.int .u32 a] w fun e w'=>e=.returned (.int .i64 (FN a))/\w'=w:=by
 by_cases c1:a/8388608%256=255
 ·by_cases c2:a%8388608=0
  ·have hc:FN a=4:=by unfold FN;rw[if_pos c1,if_pos c2]
   exact Lb
  ·have hc:FN a=5:=by unfold FN;rw[if_pos c1,if_neg c2]
   exact Lb
 ·by_cases c2:a/8388608%256=0
  ·by_cases c3:a%8388608=0
   ·have hc:FN a=1:=by unfold FN;rw[if_neg c1,if_pos c2,if_pos c3]
    exact Lb
   ·have hc:FN a=2:=by unfold FN;rw[if_neg c1,if_pos c2,if_neg c3]
    exact Lb
  ·have hc:FN a=3:=by unfold FN;rw[if_neg c1,if_neg c2]
   exact Lb
theorem H3(a:Int)(h0:0<=a)(h1:a<4294967296)(hn:I0 a=true)(w:World):
 Calls prog 85 #[.int .u32 a] w fun e w'=>e=.returned (.int .i64 5)/\w'=w:=by
 have:=Ey a h0 h1 w;rwa[Jy a hn h0 h1]at this
theorem H2(a:Int)(h0:0<=a)(h1:a<4294967296)(w:World):
 Calls prog 83 #[.int .u32 a] w fun e w'=>e=.returned (.int .u32 (D1 a))/\w'=w:=by
 cases hn:I0 a
 ·have hc:D1 a=a:=by unfold D1;simp[hn]
  have h5:(FN a==5)=false:=by have:=Jz a hn h0 h1;simpa using this
  rw[hc];clear hc hn;go_enter func83,ntmps83;go_wp2_with(go_at_call 85;refine(Ey _ h0 h1 _).mono ?_;rintro e w' ⟨rfl,rfl⟩);go_ret;exact⟨rfl,rfl⟩
 ·have hc:D1 a=2143289344:=by unfold D1;simp[hn]
  rw[hc];clear hc;go_enter func83,ntmps83;go_wp2_with(go_at_call 85;refine(H3 _ h0 h1 hn _).mono ?_;rintro e w' ⟨rfl,rfl⟩);go_ret;exact⟨rfl,rfl⟩

def DH(t:Ty):List Value:=[.int .i64 t.kind,.int .i64 t.par]
def Eu(s:Sl):List Value:=[.int .i64 s.ty.kind,.int .i64 s.ty.par,.bool s.keep,.int .u32 s.bits,.int .i64 s.int_]
def AS(i:Ab):List Value:=[.int .i64 i.op,.int .i64 i.d,.int .i64 i.a,.int .i64 i.b,.int .i64 i.c,.int .i64 i.n,.int .u32 i.bits]
theorem F3(t:Ty):(DH t).length=2:=rfl
theorem F2(t:Sl):(Eu t).length=5:=rfl
theorem Bg(t:Ab):(AS t).length=7:=rfl
theorem D7(t:Ba):(Az t).length=3:=rfl
def CQ(t:Ty):Value:=.agg #[.int .i64 t.kind,.int .i64 t.par]
def BD(r:Rw):Value:=.agg #[.int .i64 r.d,.int .i64 r.a,.int .i64 r.b,.int .i64 r.c,.int .i64 r.n]
theorem kc{w w':World}(k:Below w.heap.size w w'){a:Addr}{v:Value}(h:w.cell? a=some v):w'.cell? a=some v:=(k.cell (Ac h)).trans h
def Ae(w:World)(b o:Nat)(cs:List Value):Prop:=∀j (h:j<cs.length),w.cell? ⟨b,o+j,none⟩=some cs[j]
theorem Ae.below{w w':World}{b o:Nat}{cs:List Value}(h:Ae w b o cs)(k:Below w.heap.size w w'):Ae w' b o cs:=fun j hj=>(k.cell (Ac (h j hj))).trans (h j hj)
theorem Ae.at{w:World}{b o:Nat}{cs:List Value}(h:Ae w b o cs)(j:Nat){v:Value}(e:cs[j]? =some v):w.cell? ⟨b,o+j,none⟩=some v:=by
 obtain⟨hj,e⟩:=List.getElem?_eq_some_iff.1 e;rw[h j hj,e]
theorem Ae.of_block{w w':World}{b o:Nat}{cs:List Value}(h:Ae w b o cs)(e:w'.heap[b]? =w.heap[b]?):Ae w' b o cs:=fun j hj=>(World.cell?_of_block e).trans (h j hj)
def AI{α:Type}(k:Nat)(f:α->List Value)(w:World)(v:Value)(l:List α):Prop:=
 ∃p c,v=.slice p l.length c/\(l=[]\/∃b o,p=some ⟨b,o,none⟩/\∀i (h:i<l.length),Ae w b (o+i*k) (f l[i]))
theorem AI.below{α:Type}{k:Nat}{f:α->List Value}{w w':World}{v:Value}{l:List α}(h:AI k f w v l)(q:Below w.heap.size w w'):AI k f w' v l:=by
 obtain⟨p,c,hv,h⟩:=h;exact⟨p,c,hv,h.imp id fun⟨b,o,hp,h⟩=>⟨b,o,hp,fun i hi=>(h i hi).below q⟩⟩
theorem AI.at{α:Type}{k:Nat}{f:α->List Value}{w:World}{p:Option Addr}{n c:Nat}{l:List α}(h:AI k f w (.slice p n c) l){i:Nat}(hi:i<l.length):∃b o,p=some ⟨b,o,none⟩/\Ae w b (o+i*k) (f l[i]):=by
 obtain⟨p',c',hv,h⟩:=h;simp only[Value.slice.injEq]at hv;obtain⟨rfl,rfl,rfl⟩:=hv;rcases h with h|⟨b,o,hp,h⟩
 ·rw[h]at hi;exact absurd hi (Nat.not_lt_zero _)
 ·exact⟨b,o,hp,h i hi⟩
theorem AI.rd{w:World}{v:Value}{l:List Ba}(h:AI 3 Az w v l):Rd w v l:=by
 obtain⟨p,c,hv,h⟩:=h;exact⟨p,c,hv,h.imp id fun⟨b,o,hp,h⟩=>⟨b,o,hp,fun i hi=>⟨(h i hi).at 0 rfl,(h i hi).at 1 rfl,(h i hi).at 2 rfl⟩⟩⟩
structure CY(w:World)(v0 v1 v2 v3:Value)(c:Cd):Prop where
 sign:AI 3 Az w v0 c.sign
 regs:AI 2 DH w v1 c.regs
 slots:AI 5 Eu w v2 c.slots
 list:AI 7 AS w v3 c.list
theorem CY.below{w w':World}{v0 v1 v2 v3:Value}{c:Cd}(h:CY w v0 v1 v2 v3 c)(k:Below w.heap.size w w'):CY w' v0 v1 v2 v3 c:=⟨h.sign.below k,h.regs.below k,h.slots.below k,h.list.below k⟩
def AY(w:World)(C:Nat)(v0 v1 v2 v3:Value)(c:Cd):Prop:=Ae w C 0 [v0,v1,v2,v3]/\CY w v0 v1 v2 v3 c
theorem AY.below{w w':World}{C:Nat}{v0 v1 v2 v3:Value}{c:Cd}(h:AY w C v0 v1 v2 v3 c)(k:Below w.heap.size w w'):AY w' C v0 v1 v2 v3 c:=⟨h.1.below k,h.2.below k⟩
structure Bl(c:Cd):Prop where
 signL:c.sign.length<=140737488351232
 names:∀p∈c.sign,p.name.size<=140737488351232
 regsL:c.regs.length<=140737488351232
 slotsL:c.slots.length<=140737488351232
 listL:c.list.length<=140737488351232
 sbits:∀s∈c.slots,0<=s.bits/\s.bits<4294967296
 ibits:∀i∈c.list,0<=i.bits/\i.bits<4294967296


theorem Bw(n:Int)(k:Nat)(w:World):Calls prog 74 #[.int .i64 n,.int .i64 k] w fun e w'=>e=.returned (.bool (BF n k))/\w'=w:=by
 unfold BF;by_cases h:0<=n
 all_goals
  go_enter func74,ntmps74;go_wp2;go_ret;exact⟨Af (by simp[h];try omega),rfl⟩
theorem DA(n:Int)(w:World):Calls prog 75 #[.int .i64 n] w fun e w'=>e=.returned (.bool (CX n))/\w'=w:=by
 unfold CX;by_cases h:0<=n
 all_goals
  go_enter func75,ntmps75;go_wp2;go_ret;exact⟨Af (by simp[h];try omega),rfl⟩
theorem DV(a:Int)(h0:0<=a)(h1:a<4294967296)(w:World):Calls prog 76 #[.int .u32 a] w fun e w'=>e=.returned (.bool (DF a))/\w'=w:=by
 have hc:DF a=(D1 a==a):=by unfold DF D1;cases I0 a<;>rw[Bool.eq_iff_iff]<;>simp
 rw[hc];have HK:Hid (∀w,Calls prog 83 #[.int .u32 a] w fun e w'=>e=.returned (.int .u32 (D1 a))/\w'=w):=H2 a h0 h1;clear hc;obtain⟨x,hx⟩:∃x,D1 a=x:=⟨_,rfl⟩
 rw[hx]at HK ⊢;clear hx;go_enter func76,ntmps76;go_wp2_with(go_at_call 83;refine(HK.out _).mono ?_;rintro e w1 ⟨rfl,rfl⟩);go_ret;exact⟨rfl,rfl⟩
theorem CR(t:Ty)(p:Option Addr)(n c:Nat)(hn:n<=140737488351232)(w:World):Calls prog 56 #[CQ t,.slice p n c] w fun e w'=>e=.returned (.bool (AP t n))/\Below w.heap.size w w':=by
 obtain⟨K,P⟩:=t;have HK:Hid (∀w,Calls prog 74 #[.int .i64 P,.int .i64 n] w fun e w'=>e=.returned (.bool (BF P n))/\w'=w):=Bw P n;unfold AP CQ;simp only;by_cases h1:K=1
 ·subst h1;rw[if_pos (Or.inl rfl)];exact LY
 ·by_cases h2:K=2
  ·subst h2;rw[if_pos (Or.inr rfl)];exact LY
  ·rw[if_neg (fun e=>e.elim h1 h2)];have h1':(K==1)=false:=by simpa using h1
   have h2':(K==2)=false:=by simpa using h2
   by_cases h3:K=3
   ·subst h3;rw[if_pos rfl];go_enter func56,ntmps56;exact MX
   ·rw[if_neg h3];have h3':(K==3)=false:=by simpa using h3
    clear h1 h2 h3;exact LY
def Ju(s:Sl):Value:=.agg #[.int .i64 s.ty.kind,.int .i64 s.ty.par,.bool s.keep,.int .u32 s.bits,.int .i64 s.int_]
theorem FS(s:Sl)(h0:0<=s.bits)(h1:s.bits<4294967296)(w:World):Calls prog 57 #[Ju s] w fun e w'=>e=.returned (.bool (DO s))/\Below w.heap.size w w':=by
 have HK:Hid (∀w,Calls prog 76 #[.int .u32 s.bits] w fun e w'=>e=.returned (.bool (DF s.bits))/\w'=w):=DV s.bits h0 h1;have HL:Hid (∀w,Calls prog 75 #[.int .i64 s.int_] w fun e w'=>e=.returned (.bool (CX s.int_))/\w'=w):=DA s.int_;obtain⟨⟨K,P⟩,Q,B,I⟩:=s;unfold DO Ju;simp only at HK HL h0 h1 ⊢;obtain⟨X,hX⟩:∃X,DF B=X:=⟨_,rfl⟩
 obtain⟨Y,hY⟩:∃Y,CX I=Y:=⟨_,rfl⟩
 rw[hX]at HK ⊢;rw[hY]at HL ⊢;clear hX hY;by_cases h2:K=2
 ·subst h2;rw[if_pos rfl];cases hb:(B==0)
  all_goals
   go_enter func57,ntmps57;go_wp2_with(go_at_call 75;refine(HL.out _).mono ?_;rintro e w1 ⟨rfl,rfl⟩);go_ret;exact⟨Af (by simp[hb]),A0 _ _⟩
 ·rw[if_neg h2];have h2':(K==2)=false:=by simpa using h2
  clear h2;cases hb:(I==0)
  all_goals
   go_enter func57,ntmps57;go_wp2_with(go_at_call 76;refine(HK.out _).mono ?_;rintro e w1 ⟨rfl,rfl⟩);go_ret;exact⟨Af (by simp[hb]),A0 _ _⟩


theorem Jr(K P L Q:Int):decide ((⟨K,P⟩:Ty)=⟨L,Q⟩)=(K==L&&P==Q):=by
 rw[Bool.eq_iff_iff];simp
theorem Hg(l:Int)(t m:Ty)(w:World):Calls prog 77 #[.int .i64 l,CQ t,CQ m] w fun e w'=>e=.returned (.bool (DY l t m))/\Below w.heap.size w w':=by
 obtain⟨K,P⟩:=t;obtain⟨L,Q⟩:=m;unfold DY CQ;simp only[Jr];by_cases h1:l=1
 ·subst h1;rw[if_pos rfl];exact LV
 rw[if_neg h1];by_cases h2:l=2
 ·subst h2;rw[if_pos rfl];clear h1;exact LV
 rw[if_neg h2];by_cases h3:l=3
 ·subst h3;rw[if_pos rfl];clear h1 h2;exact LV
 rw[if_neg h3];by_cases h4:l=4
 ·subst h4;rw[if_pos rfl];clear h1 h2 h3;cases hk:(K==1)
  all_goals
   go_enter func77,ntmps77;go_wp2;go_ret;exact⟨Af (by simp[hk]),bel (A0 _ _) (A0 _ _)⟩
 rw[if_neg h4];by_cases h5:l=5
 ·subst h5;rw[if_pos rfl];clear h1 h2 h3 h4;cases hk:(K==1)<;>cases hl:(K==L)<;>cases hq:(P==Q)
  all_goals
   go_enter func77,ntmps77;go_wp2;go_ret;exact⟨Af (by simp[hk,hl,hq]),bel (A0 _ _) (A0 _ _)⟩
 rw[if_neg h5];have h1':(l==1)=false:=by simpa using h1
 have h2':(l==2)=false:=by simpa using h2
 have h3':(l==3)=false:=by simpa using h3
 have h4':(l==4)=false:=by simpa using h4
 have h5':(l==5)=false:=by simpa using h5
 clear h1 h2 h3 h4 h5;go_enter func77,ntmps77;go_wp2
 all_goals
  go_ret;exact⟨Af (by simp[*]),bel (A0 _ _) (A0 _ _)⟩

theorem EZ{l:List Ty}{n:Int}{k:Nat}(h:n=(k:Int))(hk:k<l.length):Dr l n=l[k]:=by
 subst h;unfold Dr;rw[if_pos (Bv.2 ⟨oM,oM⟩),Int.toNat_natCast,List.getElem?_eq_getElem hk];rfl
theorem Ea{n:Int}{k:Nat}(h:BF n k=true):∃m:Nat,n=(m:Int)/\m<k:=by
 obtain⟨h0,h1⟩:=Bv.1 h;exact⟨n.toNat,oM,oM⟩
theorem B4(C:Nat)(v0 v1 v2 v3:Value)(c:Cd)(hk:Bl c)(l n:Int)(m:Ty)(w:World)(hc:AY w C v0 v1 v2 v3 c):
 Calls prog 60 #[.pointer (some ⟨C,0,none⟩),.int .i64 l,.int .i64 n,CQ m] w fun e w'=>e=.returned (.bool (Am c.regs l n m))/\Below w.heap.size w w':=by
 unfold Am;by_cases h0:l=0
 ·subst h0;rw[if_pos rfl];unfold CQ;go_enter func60,ntmps60;go_wp2;go_ret;exact⟨rfl,A0 _ _⟩
 rw[if_neg h0];have h0':(l==0)=false:=by simpa using h0
 clear h0;have HB:=hk.regsL;have K1:=Bw n c.regs.length;obtain⟨hcc,hcv⟩:=hc;have c1:=hcc.at 1 rfl;rw[Nat.zero_add]at c1;have hr:=hcv.regs;obtain⟨p,q,rfl,hrr⟩:=hcv.regs;have HN:Hid (c.regs.length=c.regs.length):=rfl;obtain⟨X,hX⟩:∃X,BF n c.regs.length=X:=⟨_,rfl⟩
 simp only[hX]at K1;rw[hX];have hC:=Ac c1;simp only at hC;cases X
 ·clear hr hrr hcc hcv;obtain⟨N,hN⟩:∃N,c.regs.length=N:=⟨_,rfl⟩
  rw[hN]at K1 c1 HB;have HK:Hid (∀w,Calls prog 74 #[.int .i64 n,.int .i64 N] w fun e w'=>e=.returned (.bool false)/\w'=w):=K1;clear hN K1 hX HN;obtain⟨A,B⟩:=m;unfold CQ;go_enter func60,ntmps60;go_wp2;have hC':C≠w.heap.size:=oM;refine rG (fun v=>v.cell? ⟨C,1,none⟩=some (.slice p N q)) fun hHeld=>?_;exact ME
 ·obtain⟨k,hnk,hkl⟩:=Ea hX;rw[EZ hnk hkl];have hti:c.regs[k]=c.regs[k]:=rfl;obtain⟨b,o,hp,hx⟩:=hr.at hkl;subst hp;subst hnk;have x0:=hx.at 0 rfl;have x1:=hx.at 1 rfl;rw[Nat.add_zero]at x0;have hbl:=Ac x0;simp only at hbl;have K2:=Hg l c.regs[k] m;obtain⟨T,hT⟩:∃T,c.regs[k]=T:=⟨_,rfl⟩
  rw[hT]at x0 x1 K2 ⊢;obtain⟨N,hN⟩:∃N,c.regs.length=N:=⟨_,rfl⟩
  rw[hN]at K1 c1 HB hkl;have HK:Hid (∀w,Calls prog 74 #[.int .i64 (k:Int),.int .i64 N] w fun e w'=>e=.returned (.bool true)/\w'=w):=K1;clear hN K1 hX HN hr hrr hcc hcv hx hti hT;obtain⟨A,B⟩:=m;obtain⟨D,E⟩:=T;unfold CQ at K2 ⊢;simp only at x0 x1 K2 ⊢;obtain⟨Y,hY⟩:∃Y,DY l ⟨D,E⟩ ⟨A,B⟩=Y:=⟨_,rfl⟩
  rw[hY]at K2 ⊢;have HM:Hid (∀w,Calls prog 77 #[.int .i64 l,.agg #[.int .i64 D,.int .i64 E],.agg #[.int .i64 A,.int .i64 B]] w fun e w'=>e=.returned (.bool Y)/\Below w.heap.size w w'):=K2;clear K2 hY;have i1:(0:Int)<=(k:Int):=oM;have i2:(k:Int)<(N:Int):=oM;have hC':C≠w.heap.size:=oM;have hb':b≠w.heap.size:=oM;have HC:Hid (∀v,Below (w.alloc (.cells #[.int .i64 A,.int .i64 B] 50)).heap.size (w.alloc (.cells #[.int .i64 A,.int .i64 B] 50)) v->v.cell? ⟨C,1,none⟩=some (.slice (some ⟨b,o,none⟩) N q)/\v.cell? ⟨b,o+k*2,none⟩=some (.int .i64 D)/\v.cell? ⟨b,o+k*2+1,none⟩=some (.int .i64 E)/\v.cell? ⟨w.heap.size,0,none⟩=some (.int .i64 A)/\v.cell? ⟨w.heap.size,1,none⟩=some (.int .i64 B)):=
   fun v hv=>⟨kc hv (kc (A0 _ _) c1),kc hv (kc (A0 _ _) x0),kc hv (kc (A0 _ _) x1),kc hv sG,kc hv sG⟩
  go_enter func60,ntmps60;go_wp2;refine rG (fun v=>v.cell? ⟨C,1,none⟩=some (.slice (some ⟨b,o,none⟩) N q)/\v.cell? ⟨b,o+k*2,none⟩=some (.int .i64 D)/\v.cell? ⟨b,o+k*2+1,none⟩=some (.int .i64 E)/\v.cell? ⟨w.heap.size,0,none⟩=some (.int .i64 A)/\v.cell? ⟨w.heap.size,1,none⟩=some (.int .i64 B)) fun hHeld=>?_;refine Tf 0 1 2 3 4 5 ?_;clear hHeld;refine Aw 6 fun K hK=>?_;go_simp;(go_at_call 74;refine(HK.out _).mono ?_;rintro e w1 ⟨rfl,rfl⟩);try(go_wp2_with fail)
  refine As hK fun hHeld=>?_;clear hK K;refine Tf 7 8 9 10 11 12 ?_;refine Tc 13 14 15 ?_;refine Bo 16 ?_;clear hHeld;refine Aw 17 fun K hK=>?_;go_simp;(go_at_call 77;refine(HM.out _).mono ?_;rintro e w1 ⟨rfl,hb1⟩;have HB1:=bel (Ah _) hb1;obtain⟨y0,y1,y2,y3,y4⟩:=HC.out w1 HB1);try(go_wp2_with fail)
  refine As hK fun hHeld=>?_;clear hK K;refine Tb 18 19 ?_;refine wpAnyH_done kR ?_ _;go_wp2;go_ret;exact⟨sM,bel (A0 _ _) HB1⟩


theorem Er(C:Nat)(p:Option Addr)(N q:Nat)(l:List Ty)(b o:Nat)(i:Ab)(r:Rw)(w:World)(hN:l.length=N)(c1:w.cell? ⟨C,1,none⟩=some (.slice p N q))(hr:AI 2 DH w (.slice p N q) l)(hB:N<=140737488351232)(hi:Ae w b o (AS i)):
 Calls prog 58 #[.pointer (some ⟨C,0,none⟩),.pointer (some ⟨b,o,none⟩),BD r] w fun e w'=>e=.returned (CQ (At l i r))/\Below w.heap.size w w':=by
 unfold At Fj;have e1:=hi.at 1 rfl;have e2:=hi.at 2 rfl;have hC:=Ac c1;have hb:=Ac e1;simp only at hC hb;have n1:C≠w.heap.size:=oM;have n2:C≠w.heap.size+1:=oM;have n3:b≠w.heap.size:=oM;have n4:b≠w.heap.size+1:=oM;clear hi hC hb;obtain⟨D,A,B,X,Y⟩:=r;unfold BD;simp only;have HA:Hid (∀a v,w.cell? a=some v->((w.alloc (.cells #[.int .i64 D,.int .i64 A,.int .i64 B,.int .i64 X,.int .i64 Y] 97)).alloc (.cells #[.int .i64 0,.int .i64 0] 50)).cell? a=some v):=fun a v h=>kc (A0 _ _) (kc (A0 _ _) h);obtain⟨x,hx⟩:∃x,(if D=0 then i.a else i.d)=x:=⟨_,rfl⟩
 rw[hx];have K1:=Bw x N;have HX:Hid ((D=0/\x=i.a)\/(D≠0/\x=i.d)):=by
  show _\/_;by_cases h:D=0
  ·rw[if_pos h]at hx;exact .inl ⟨h,hx.symm⟩
  ·rw[if_neg h]at hx;exact .inr ⟨h,hx.symm⟩
 clear hx;obtain⟨P,hP⟩:∃P,BF x N=P:=⟨_,rfl⟩
 simp only[hP]at K1;have HK:Hid (∀w,Calls prog 74 #[.int .i64 x,.int .i64 N] w fun e w'=>e=.returned (.bool P)/\w'=w):=K1;clear K1;cases P
 ·have HT:Hid (Dr l x=⟨0,0⟩):=by show _=_;unfold Dr;rw[hN,hP];rfl
  clear hP hr;rcases HX.out with⟨rfl,rfl⟩|⟨hD,rfl⟩
  ·clear HX;have f1:=HA.out _ _ e1;have f2:=HA.out _ _ e2;have f3:=HA.out _ _ c1;exact Lw
  ·clear HX;have hD':(D==0)=false:=by simpa using hD
   clear hD;have f1:=HA.out _ _ e1;have f2:=HA.out _ _ e2;have f3:=HA.out _ _ c1;exact Lw
 ·obtain⟨k,hxk,hk⟩:=Ea hP;have hkl:k<l.length:=oM;have HT:Hid (Dr l x=l[k]):=EZ hxk hkl;obtain⟨g,u,hp,hx⟩:=hr.at hkl;subst hp;have x0:=hx.at 0 rfl;have x1:=hx.at 1 rfl;rw[Nat.add_zero]at x0;obtain⟨T,hT⟩:∃T,l[k]=T:=⟨_,rfl⟩
  rw[hT]at x0 x1 HT;obtain⟨E,G⟩:=T;simp only at x0 x1;have hg:=Ac x0;simp only at hg;have n5:g≠w.heap.size:=oM;have n6:g≠w.heap.size+1:=oM;have i1:(0:Int)<=(k:Int):=oM;have i2:(k:Int)<(N:Int):=oM;clear hP hr hx hT hg hN hkl;rcases HX.out with⟨rfl,hv⟩|⟨hD,hv⟩
  ·clear HX;rw[←hv,hxk]at e2;rw[hxk]at HK HT ⊢;clear hv hxk;have f1:=HA.out _ _ e1;have f2:=HA.out _ _ e2;have f3:=HA.out _ _ c1;have f4:=HA.out _ _ x0;have f5:=HA.out _ _ x1;exact Lw
  ·clear HX;have hD':(D==0)=false:=by simpa using hD
   rw[←hv,hxk]at e1;rw[hxk]at HK HT ⊢;clear hD hv hxk;have f1:=HA.out _ _ e1;have f2:=HA.out _ _ e2;have f3:=HA.out _ _ c1;have f4:=HA.out _ _ x0;have f5:=HA.out _ _ x1;exact Lw
theorem D5(C:Nat)(v0 v1 v2 v3:Value)(c:Cd)(hk:Bl c)(b o:Nat)(i:Ab)(r:Rw)(w:World)(hc:AY w C v0 v1 v2 v3 c)(hi:Ae w b o (AS i)):
 Calls prog 58 #[.pointer (some ⟨C,0,none⟩),.pointer (some ⟨b,o,none⟩),BD r] w fun e w'=>e=.returned (CQ (At c.regs i r))/\Below w.heap.size w w':=by
 obtain⟨hcc,hcv⟩:=hc;have c1:=hcc.at 1 rfl;rw[Nat.zero_add]at c1;have hr:=hcv.regs;obtain⟨p,q,rfl,hrr⟩:=hcv.regs;exact Er C p _ q c.regs b o i r w rfl c1 hr hk.regsL hi
theorem DZ(s:ByteArray):(s.toList==[])=(s.size==0):=by
 rw[Bool.eq_iff_iff];simp only[beq_iff_eq];constructor
 ·intro h;rw[ByteArray.toList_eq]at h;show s.data.size=0;rw[←Array.length_toList,h];rfl
 ·intro h;rw[ByteArray.toList_eq];exact List.eq_nil_of_length_eq_zero (by rw[Array.length_toList];exact h)
theorem D3(s:ByteArray):s.toList.isEmpty=(s.size==0):=by
 rw[←DZ,Bool.eq_iff_iff];simp
theorem Hh{s:ByteArray}{j:Nat}(h:j<s.size)(hq:Hl (s[j].toNat:Int)=false):Bh s=false:=by
 unfold Bh;have:((bs s).all fun b=>Hl (nb b))=false:=by
  rw[List.all_eq_false];exact⟨s[j],by unfold bs;exact Array.mem_toList_iff.2 (Array.getElem_mem (xs:=s.data) h),by simp[nb,hq]⟩
 rw[this,Bool.and_false]
theorem Gh{s:ByteArray}(h0:s.size≠0)(h1:s.size<=64)(h:∀j (h:j<s.size),Hl (s[j].toNat:Int)=true):Bh s=true:=by
 unfold Bh;have:((bs s).all fun b=>Hl (nb b))=true:=by
  rw[List.all_eq_true];intro b hb;obtain⟨j,hj,rfl⟩:=List.mem_iff_getElem.1 hb;exact h j (by rw[←GZ];exact hj)
 rw[this];simp[h0,h1]
theorem Ie(p:Ba):Bm p=((Bh p.name&&(p.kind==1||p.kind==2))&&(decide (1<=p.len)&&decide (p.len<=4096))):=rfl

theorem JI{l:List Ba}{n:Int}{k:Nat}(h:n=(k:Int))(hk:k<l.length):EQ l n=l[k].kind:=by
 subst h;unfold EQ;rw[Int.toNat_natCast,List.getElem?_eq_getElem hk];rfl
theorem Jh{l:List Sl}{n:Int}{k:Nat}(h:n=(k:Int))(hk:k<l.length):Eg l n=l[k].ty:=by
 subst h;unfold Eg;rw[Int.toNat_natCast,List.getElem?_eq_getElem hk];rfl
theorem G4(C:Nat)(v0 v1 v2 v3:Value)(c:Cd)(hk:Bl c)(n:Int)(m:Ty)(w:World)(hc:AY w C v0 v1 v2 v3 c)(hp:n=1->BF m.par c.sign.length=true):
 Calls prog 78 #[.pointer (some ⟨C,0,none⟩),.int .i64 n,.int .i64 9,CQ m] w fun e w'=>e=.returned (.bool (n==0||(n==1&&EQ c.sign m.par==2)))/\Below w.heap.size w w':=by
 obtain⟨hcc,hcv⟩:=hc;have c1:=hcc.at 0 rfl;rw[Nat.zero_add]at c1;have hC:=Ac c1;simp only at hC;have n1:C≠w.heap.size:=oM;obtain⟨K,P⟩:=m;unfold CQ;simp only at hp ⊢;have f1:(w.alloc (.cells #[.int .i64 K,.int .i64 P] 50)).cell? ⟨C,0,none⟩=some v0:=kc (A0 _ _) c1;by_cases h0:n=0
 ·subst h0;clear hp hcv hcc;go_enter func78,ntmps78;go_wp2;refine rG (fun v=>v.cell? ⟨C,0,none⟩=some v0) fun hHeld=>?_;refine Tc 0 1 2 ?_;refine Kd 3 4 5 6 ?_;refine Kd 7 8 9 10 ?_;refine Kd 11 12 13 14 ?_;refine Ek 15 ?_;refine Ek 16 ?_;refine Tb 17 18 ?_;refine wpAnyH_done kR ?_ _;go_wp2;go_ret;exact⟨rfl,bel (A0 _ _) (Ah _)⟩
 have h0':(n==0)=false:=by simpa using h0
 by_cases h1:n=1
 ·subst h1;obtain⟨k,hxk,hk2⟩:=Ea (hp rfl);have hT:=JI hxk hk2;subst hxk;have hr:=hcv.sign;obtain⟨p,q,rfl,hrr⟩:=hcv.sign;obtain⟨b,o,rfl,hx⟩:=hr.at hk2;have x1:=hx.at 1 rfl;have hb:=Ac x1;simp only at hb;have n2:b≠w.heap.size:=oM;have HB:=hk.signL;obtain⟨T,hT'⟩:∃T,c.sign[k].kind=T:=⟨_,rfl⟩
  rw[hT']at x1 hT;rw[hT];obtain⟨N,hN⟩:∃N,c.sign.length=N:=⟨_,rfl⟩
  rw[hN]at c1 HB hk2 f1;have f2:(w.alloc (.cells #[.int .i64 K,.int .i64 (k:Int)] 50)).cell? ⟨b,o+k*3+1,none⟩=some (.int .i64 T):=kc (A0 _ _) x1;have i1:(0:Int)<=(k:Int):=oM;have i2:(k:Int)<(N:Int):=oM;clear hp hcv hcc hr hrr hx hT hT' hN h0 hk;go_enter func78,ntmps78;go_wp2;refine rG (fun v=>v.cell? ⟨C,0,none⟩=some (.slice (some ⟨b,o,none⟩) N q)/\v.cell? ⟨b,o+k*3+1,none⟩=some (.int .i64 T)/\v.cell? ⟨w.heap.size,1,none⟩=some (.int .i64 (k:Int))) fun hHeld=>?_;refine Tf 0 1 2 3 4 5 ?_;refine Tf 6 7 8 9 10 11 ?_;refine Tf 12 13 14 15 16 17 ?_;refine Bo 18 ?_;refine wpAnyH_done kR ?_ _;go_wp2;go_ret;exact⟨Af sM,bel (A0 _ _) (Ah _)⟩
 ·have h1':(n==1)=false:=by simpa using h1
  clear hp hcv hcc h0 h1;go_enter func78,ntmps78;go_wp2;refine rG (fun v=>v.cell? ⟨C,0,none⟩=some v0) fun hHeld=>?_;refine Tf 0 1 2 3 4 5 ?_;refine Kd 6 7 8 9 ?_;refine Kd 10 11 12 13 ?_;refine Ek 14 ?_;refine Ek 15 ?_;refine Tc 16 17 18 ?_;refine wpAnyH_done kR ?_ _;go_wp2;go_ret;exact⟨Af (by simp[h0',h1']),bel (A0 _ _) (Ah _)⟩
theorem G5(C:Nat)(v0 v1 v2 v3:Value)(c:Cd)(hk:Bl c)(n:Int)(m:Ty)(w:World)(hc:AY w C v0 v1 v2 v3 c):
 Calls prog 78 #[.pointer (some ⟨C,0,none⟩),.int .i64 n,.int .i64 10,CQ m] w fun e w'=>e=.returned (.bool (BF n c.slots.length&&decide (Eg c.slots n=m)))/\Below w.heap.size w w':=by
 obtain⟨hcc,hcv⟩:=hc;have c1:=hcc.at 2 rfl;rw[Nat.zero_add]at c1;have hC:=Ac c1;simp only at hC;have n1:C≠w.heap.size:=oM;have HB:=hk.slotsL;have K1:=Bw n c.slots.length;have hr:=hcv.slots;obtain⟨p,q,rfl,hrr⟩:=hcv.slots;obtain⟨X,hX⟩:∃X,BF n c.slots.length=X:=⟨_,rfl⟩
 simp only[hX]at K1;rw[hX];obtain⟨K,P⟩:=m;unfold CQ;simp only;cases X
 ·clear hr hrr hcc hcv;obtain⟨N,hN⟩:∃N,c.slots.length=N:=⟨_,rfl⟩
  rw[hN]at K1 c1 HB;have HK:Hid (∀w,Calls prog 74 #[.int .i64 n,.int .i64 N] w fun e w'=>e=.returned (.bool false)/\w'=w):=K1;clear hN K1 hX hk;have f1:(w.alloc (.cells #[.int .i64 K,.int .i64 P] 50)).cell? ⟨C,2,none⟩=some (.slice p N q):=kc (A0 _ _) c1;go_enter func78,ntmps78;go_wp2;refine rG (fun v=>v.cell? ⟨C,2,none⟩=some (.slice p N q)) fun hHeld=>?_;exact ME
 ·obtain⟨k,hnk,hkl⟩:=Ea hX;rw[Jh hnk hkl];obtain⟨b,o,hp,hx⟩:=hr.at hkl;subst hp;subst hnk;have x0:=hx.at 0 rfl;have x1:=hx.at 1 rfl;rw[Nat.add_zero]at x0;have hbl:=Ac x0;simp only at hbl;have n2:b≠w.heap.size:=oM;obtain⟨T,hT⟩:∃T,c.slots[k].ty=T:=⟨_,rfl⟩
  rw[hT]at x0 x1 ⊢;obtain⟨D,E⟩:=T;simp only at x0 x1;rw[Jr];obtain⟨N,hN⟩:∃N,c.slots.length=N:=⟨_,rfl⟩
  rw[hN]at K1 c1 HB hkl;have HK:Hid (∀w,Calls prog 74 #[.int .i64 (k:Int),.int .i64 N] w fun e w'=>e=.returned (.bool true)/\w'=w):=K1;have f1:(w.alloc (.cells #[.int .i64 K,.int .i64 P] 50)).cell? ⟨C,2,none⟩=some (.slice (some ⟨b,o,none⟩) N q):=kc (A0 _ _) c1;have f2:(w.alloc (.cells #[.int .i64 K,.int .i64 P] 50)).cell? ⟨b,o+k*5,none⟩=some (.int .i64 D):=kc (A0 _ _) x0;have f3:(w.alloc (.cells #[.int .i64 K,.int .i64 P] 50)).cell? ⟨b,o+k*5+1,none⟩=some (.int .i64 E):=kc (A0 _ _) x1;have i1:(0:Int)<=(k:Int):=oM;have i2:(k:Int)<(N:Int):=oM;clear hN K1 hX hr hrr hcc hcv hx hT hk;cases hl:(D==K)<;>cases hq:(E==P)
  all_goals
   go_enter func78,ntmps78;go_wp2;refine rG (fun v=>v.cell? ⟨C,2,none⟩=some (.slice (some ⟨b,o,none⟩) N q)/\v.cell? ⟨b,o+k*5,none⟩=some (.int .i64 D)/\v.cell? ⟨b,o+k*5+1,none⟩=some (.int .i64 E)/\v.cell? ⟨w.heap.size,0,none⟩=some (.int .i64 K)/\v.cell? ⟨w.heap.size,1,none⟩=some (.int .i64 P)) fun hHeld=>?_;refine Tf 0 1 2 3 4 5 ?_;clear hHeld;refine Aw 6 fun K hK=>?_;go_simp;(go_at_call 74;refine(HK.out _).mono ?_;rintro e w1 ⟨rfl,rfl⟩);try(go_wp2_with fail)
   refine As hK fun hHeld=>?_;clear hK K;refine Tf 7 8 9 10 11 12 ?_;refine Tf 13 14 15 16 17 18 ?_;refine Bo 19 ?_;refine wpAnyH_done kR ?_ _;go_wp2;go_ret;exact⟨Af (by simp[hl,hq]),bel (A0 _ _) (Ah _)⟩
theorem H6(C:Nat)(v0 v1 v2 v3:Value)(c:Cd)(hk:Bl c)(n l:Int)(m:Ty)(w:World)(hc:AY w C v0 v1 v2 v3 c)(hp:l=9->BF m.par c.sign.length=true):
 Calls prog 78 #[.pointer (some ⟨C,0,none⟩),.int .i64 n,.int .i64 l,CQ m] w fun e w'=>e=.returned (.bool (DU c n l m))/\Below w.heap.size w w':=by
 unfold DU;by_cases h8:l=8
 ·subst h8;rw[if_pos rfl];have HK:Hid (∀w,Calls prog 75 #[.int .i64 n] w fun e w'=>e=.returned (.bool (CX n))/\w'=w):=DA n;unfold CQ;clear hp hc;go_enter func78,ntmps78;go_wp2_with(go_at_call 75;refine(HK.out _).mono ?_;rintro e w1 ⟨rfl,rfl⟩);go_ret;exact⟨rfl,A0 _ _⟩
 rw[if_neg h8];by_cases h9:l=9
 ·subst h9;rw[if_pos rfl];exact G4 C v0 v1 v2 v3 c hk n m w hc fun _=>hp rfl
 rw[if_neg h9];by_cases h10:l=10
 ·subst h10;rw[if_pos rfl];exact G5 C v0 v1 v2 v3 c hk n m w hc
 rw[if_neg h10];have h8':(l==8)=false:=by simpa using h8
 have h9':(l==9)=false:=by simpa using h9
 have h10':(l==10)=false:=by simpa using h10
 clear h8 h9 h10 hp;by_cases h11:l=11
 ·subst h11;rw[if_pos rfl];have K1:=Bw n c.sign.length;have HB:=hk.signL;obtain⟨hcc,hcv⟩:=hc;have c1:=hcc.at 0 rfl;rw[Nat.zero_add]at c1;have hC:=Ac c1;simp only at hC;have n1:C≠w.heap.size:=oM;obtain⟨p,q,rfl,hrr⟩:=hcv.sign;obtain⟨X,hX⟩:∃X,BF n c.sign.length=X:=⟨_,rfl⟩
  simp only[hX]at K1;rw[hX];obtain⟨N,hN⟩:∃N,c.sign.length=N:=⟨_,rfl⟩
  rw[hN]at K1 c1 HB;have HK:Hid (∀w,Calls prog 74 #[.int .i64 n,.int .i64 N] w fun e w'=>e=.returned (.bool X)/\w'=w):=K1;clear hN K1 hX hrr hcc hcv hk h8' h9' h10';unfold CQ;go_enter func78,ntmps78;exact MX
 rw[if_neg h11];have h11':(l==11)=false:=by simpa using h11
 clear h11 hc;unfold CQ;go_enter func78,ntmps78;go_wp2;go_ret;exact⟨rfl,A0 _ _⟩
theorem EP(C:Nat)(v0 v1 v2 v3:Value)(c:Cd)(hk:Bl c)(b o:Nat)(i:Ab)(l:Int)(m:Ty)(w:World)(hc:AY w C v0 v1 v2 v3 c)(hi:Ae w b o (AS i))(h0:0<=i.bits)(h1:i.bits<4294967296)(hp:l=9->BF m.par c.sign.length=true):
 Calls prog 61 #[.pointer (some ⟨C,0,none⟩),.pointer (some ⟨b,o,none⟩),.int .i64 l,CQ m] w fun e w'=>e=.returned (.bool (Bt c i l m))/\Below w.heap.size w w':=by
 have e5:=hi.at 5 rfl;have e6:=hi.at 6 rfl;have hb:=Ac e5;simp only at hb;have n1:b≠w.heap.size:=oM;have K1:=DV i.bits h0 h1;have K2:=fun w h=>H6 C v0 v1 v2 v3 c hk i.n l m w h hp;unfold Bt;obtain⟨X,hX⟩:∃X,DF i.bits=X:=⟨_,rfl⟩
 obtain⟨Y,hY⟩:∃Y,DU c i.n l m=Y:=⟨_,rfl⟩
 simp only[hX]at K1 ⊢;simp only[hY]at K2 ⊢;obtain⟨bt,hbt⟩:∃x,i.bits=x:=⟨_,rfl⟩
 obtain⟨n,hn⟩:∃x,i.n=x:=⟨_,rfl⟩
 rw[hbt]at e6 K1 ⊢;rw[hn]at e5 K2 ⊢;have HK:Hid (∀w,Calls prog 76 #[.int .u32 bt] w fun e w'=>e=.returned (.bool X)/\w'=w):=K1;obtain⟨K,P⟩:=m;unfold CQ at K2 ⊢;simp only at K2 ⊢;have HN:Hid (∀w,AY w C v0 v1 v2 v3 c->Calls prog 78 #[.pointer (some ⟨C,0,none⟩),.int .i64 n,.int .i64 l,.agg #[.int .i64 K,.int .i64 P]] w fun e w'=>e=.returned (.bool Y)/\Below w.heap.size w w'):=K2;have f5:(w.alloc (.cells #[.int .i64 K,.int .i64 P] 50)).cell? ⟨b,o+5,none⟩=some (.int .i64 n):=kc (A0 _ _) e5;have f6:(w.alloc (.cells #[.int .i64 K,.int .i64 P] 50)).cell? ⟨b,o+6,none⟩=some (.int .u32 bt):=kc (A0 _ _) e6;have HC0:Hid (AY w C v0 v1 v2 v3 c):=hc;clear K1 K2 hX hY hbt hn hi hp h0 h1 hk hc;by_cases h7:l=7
 ·subst h7;rw[if_pos rfl];clear HN;cases hz:(n==0)
  all_goals
   go_enter func61,ntmps61;go_wp2_with(go_at_call 76;refine(HK.out _).mono ?_;rintro e w1 ⟨rfl,rfl⟩);go_ret;exact⟨Af (by simp[hz]),A0 _ _⟩
 rw[if_neg h7];have h7':(l==7)=false:=by simpa using h7
 clear h7 HK;cases hz:(bt==0)
 ·go_enter func61,ntmps61;go_wp2;refine rG (fun v=>v.cell? ⟨b,o+5,none⟩=some (.int .i64 n)/\v.cell? ⟨b,o+6,none⟩=some (.int .u32 bt)) fun hHeld=>?_;refine Tf 0 1 2 3 4 5 ?_;refine Kd 6 7 8 9 ?_;refine Kd 10 11 12 13 ?_;refine Tb 14 15 ?_;refine wpAnyH_done kR ?_ _;go_wp2;go_ret;exact⟨Af (by simp[hz]),bel (A0 _ _) (Ah _)⟩
 ·go_enter func61,ntmps61;go_wp2;have HC:Hid (∀v,Below (w.alloc (.cells #[.int .i64 K,.int .i64 P] 50)).heap.size (w.alloc (.cells #[.int .i64 K,.int .i64 P] 50)) v->v.cell? ⟨b,o+5,none⟩=some (.int .i64 n)/\v.cell? ⟨b,o+6,none⟩=some (.int .u32 bt)/\v.cell? ⟨w.heap.size,0,none⟩=some (.int .i64 K)/\v.cell? ⟨w.heap.size,1,none⟩=some (.int .i64 P)):=
   fun v hv=>⟨kc hv f5,kc hv f6,kc hv sG,kc hv sG⟩
  refine rG (fun v=>v.cell? ⟨b,o+5,none⟩=some (.int .i64 n)/\v.cell? ⟨b,o+6,none⟩=some (.int .u32 bt)/\v.cell? ⟨w.heap.size,0,none⟩=some (.int .i64 K)/\v.cell? ⟨w.heap.size,1,none⟩=some (.int .i64 P)) fun hHeld=>?_;refine Tf 0 1 2 3 4 5 ?_;refine Tf 6 7 8 9 10 11 ?_;refine Bo 12 ?_;clear hHeld;refine Aw 13 fun K hK=>?_;go_simp;(go_at_call 78;refine(HN.out _ ((HC0.out.below (A0 _ _)).below (Ah _))).mono ?_;rintro e w1 ⟨rfl,hb1⟩;have HB1:=bel (Ah _) hb1;obtain⟨y0,y1,y2,y3⟩:=HC.out w1 HB1);try(go_wp2_with fail)
  refine As hK fun hHeld=>?_;clear hK K;refine Tb 14 15 ?_;refine wpAnyH_done kR ?_ _;go_wp2;go_ret;exact⟨Af (by simp[hz]),bel (A0 _ _) HB1⟩


section
open Go.Maps (Keyed)
end
theorem Ck(b o:Nat)(i:Ab)(w:World)(hi:Ae w b o (AS i)):
 Calls prog 59 #[.pointer (some ⟨b,o,none⟩)] w fun e w'=>e=.returned (.agg #[.int .i64 i.d,.int .i64 i.a,.int .i64 i.b,.int .i64 i.c])/\Below w.heap.size w w':=by
 have e1:=hi.at 1 rfl;have e2:=hi.at 2 rfl;have e3:=hi.at 3 rfl;have e4:=hi.at 4 rfl;have hb:=Ac e1;simp only at hb;have n1:b≠w.heap.size:=oM;have f1:(w.alloc (.cells #[.int .i64 0,.int .i64 0,.int .i64 0,.int .i64 0] 115)).cell? ⟨b,o+1,none⟩=some (.int .i64 i.d):=kc (A0 w _) e1;have f2:(w.alloc (.cells #[.int .i64 0,.int .i64 0,.int .i64 0,.int .i64 0] 115)).cell? ⟨b,o+2,none⟩=some (.int .i64 i.a):=kc (A0 w _) e2;have f3:(w.alloc (.cells #[.int .i64 0,.int .i64 0,.int .i64 0,.int .i64 0] 115)).cell? ⟨b,o+3,none⟩=some (.int .i64 i.b):=kc (A0 w _) e3;have f4:(w.alloc (.cells #[.int .i64 0,.int .i64 0,.int .i64 0,.int .i64 0] 115)).cell? ⟨b,o+4,none⟩=some (.int .i64 i.c):=kc (A0 w _) e4;clear hi;go_enter func59,ntmps59;go_wp2;refine rG (fun v=>v.cell? ⟨b,o+1,none⟩=some (.int .i64 i.d)/\v.cell? ⟨b,o+2,none⟩=some (.int .i64 i.a)/\v.cell? ⟨b,o+3,none⟩=some (.int .i64 i.b)/\v.cell? ⟨b,o+4,none⟩=some (.int .i64 i.c)) fun hHeld=>?_;refine Tf 0 1 2 3 4 5 ?_;refine Tf 6 7 8 9 10 11 ?_;refine Tc 12 13 14 ?_;refine Tb 15 16 ?_;clear hHeld;refine Aw 17 fun K hK=>?_;go_simp;refine As hK fun hHeld=>?_;clear hK K;refine wpAnyH_done kR ?_ _;go_wp2;refine bodyPost_ret (by simp[results,results59,go_sem, *];try rfl) rfl ?_;exact⟨rfl,gG⟩
theorem LL(D A B E:Int)(w:World):
 (Instr.index 115 (.agg #[.int .i64 D,.int .i64 A,.int .i64 B,.int .i64 E]) (.int .i64 0)).run prog w=.ok (.int .i64 D) w/\
 (Instr.index 115 (.agg #[.int .i64 D,.int .i64 A,.int .i64 B,.int .i64 E]) (.int .i64 1)).run prog w=.ok (.int .i64 A) w/\
 (Instr.index 115 (.agg #[.int .i64 D,.int .i64 A,.int .i64 B,.int .i64 E]) (.int .i64 2)).run prog w=.ok (.int .i64 B) w/\
 (Instr.index 115 (.agg #[.int .i64 D,.int .i64 A,.int .i64 B,.int .i64 E]) (.int .i64 3)).run prog w=.ok (.int .i64 E) w:=by
 refine⟨?_,?_,?_,?_⟩<;>simp[Instr.index,run_underlying underlying115,asIntOf,part,go_sem]
structure FW(w:World)(G:Nat)(L0 L1 L2 L3 L4 K P:Int)(v:World):Prop where
 bel:Below w.heap.size w v
 r0:v.cell? ⟨w.heap.size,0,none⟩=some (.int .i64 L0)
 r1:v.cell? ⟨w.heap.size,1,none⟩=some (.int .i64 L1)
 r2:v.cell? ⟨w.heap.size,2,none⟩=some (.int .i64 L2)
 r3:v.cell? ⟨w.heap.size,3,none⟩=some (.int .i64 L3)
 r4:v.cell? ⟨w.heap.size,4,none⟩=some (.int .i64 L4)
 m0:v.cell? ⟨G,0,none⟩=some (.int .i64 K)
 m1:v.cell? ⟨G,1,none⟩=some (.int .i64 P)
theorem FW.next{w:World}{G:Nat}{L0 L1 L2 L3 L4 K P:Int}{v v':World}(h:FW w G L0 L1 L2 L3 L4 K P v)(k:Below v.heap.size v v'):FW w G L0 L1 L2 L3 L4 K P v':=
 ⟨Go.Proofs.Ytchbjcldkcfffaa.bel h.bel k,kc k h.r0,kc k h.r1,kc k h.r2,kc k h.r3,kc k h.r4,kc k h.m0,kc k h.m1⟩
theorem I5(C:Nat)(v0 v1 v2 v3:Value)(c:Cd)(hk:Bl c)(b o:Nat)(i:Ab)(r:Rw)(w:World)(hc:AY w C v0 v1 v2 v3 c)(hi:Ae w b o (AS i))(h0:0<=i.bits)(h1:i.bits<4294967296)
 (hp:Am c.regs r.d i.d (At c.regs i r)=true->Am c.regs r.a i.a (At c.regs i r)=true->r.n=9->BF (At c.regs i r).par c.sign.length=true):
 Calls prog 42 #[.pointer (some ⟨C,0,none⟩),.pointer (some ⟨b,o,none⟩),BD r] w fun e w'=>e=.returned (.bool (AR c i r))/\Below w.heap.size w w':=by
 have KM:=fun w h k=>D5 C v0 v1 v2 v3 c hk b o i r w h k;have KR:=fun w k=>Ck b o i w k;have K0:=fun w h=>B4 C v0 v1 v2 v3 c hk r.d i.d (At c.regs i r) w h;have K1:=fun w h=>B4 C v0 v1 v2 v3 c hk r.a i.a (At c.regs i r) w h;have K2:=fun w h=>B4 C v0 v1 v2 v3 c hk r.b i.b (At c.regs i r) w h;have K3:=fun w h=>B4 C v0 v1 v2 v3 c hk r.c i.c (At c.regs i r) w h;have K4:=fun hq w h k=>EP C v0 v1 v2 v3 c hk b o i r.n (At c.regs i r) w h k h0 h1 hq;have HC0:Hid (AY w C v0 v1 v2 v3 c):=hc;have HI0:Hid (Ae w b o (AS i)):=hi;have hfc:AR c i r=(Am c.regs r.d i.d (At c.regs i r)&&(Am c.regs r.a i.a (At c.regs i r)&&(Am c.regs r.b i.b (At c.regs i r)&&(Am c.regs r.c i.c (At c.regs i r)&&Bt c i r.n (At c.regs i r))))):=rfl;rw[hfc];clear hfc hc hi hk h0 h1;obtain⟨M,hM⟩:∃M,At c.regs i r=M:=⟨_,rfl⟩
 simp only[hM]at KM K0 K1 K2 K3 K4 hp ⊢;obtain⟨X0,hX0⟩:∃X,Am c.regs r.d i.d M=X:=⟨_,rfl⟩
 obtain⟨X1,hX1⟩:∃X,Am c.regs r.a i.a M=X:=⟨_,rfl⟩
 obtain⟨X2,hX2⟩:∃X,Am c.regs r.b i.b M=X:=⟨_,rfl⟩
 obtain⟨X3,hX3⟩:∃X,Am c.regs r.c i.c M=X:=⟨_,rfl⟩
 obtain⟨Y,hY⟩:∃X,Bt c i r.n M=X:=⟨_,rfl⟩
 simp only[hX0]at K0 hp ⊢;simp only[hX1]at K1 hp ⊢;simp only[hX2]at K2 ⊢;simp only[hX3]at K3 ⊢;simp only[hY]at K4 ⊢;obtain⟨L0,L1,L2,L3,L4⟩:=r;obtain⟨K,P⟩:=M;obtain⟨io,D,A,B,E,n,bt⟩:=i;unfold BD at KM ⊢;unfold CQ at KM K0 K1 K2 K3 K4;simp only at KM KR K0 K1 K2 K3 K4 hp ⊢;have HKM:Hid (∀w,AY w C v0 v1 v2 v3 c->Ae w b o (AS ⟨io,D,A,B,E,n,bt⟩)->Calls prog 58 #[.pointer (some ⟨C,0,none⟩),.pointer (some ⟨b,o,none⟩),.agg #[.int .i64 L0,.int .i64 L1,.int .i64 L2,.int .i64 L3,.int .i64 L4]] w fun e w'=>e=.returned (.agg #[.int .i64 K,.int .i64 P])/\Below w.heap.size w w'):=KM;have HKR:Hid (∀w,Ae w b o (AS ⟨io,D,A,B,E,n,bt⟩)->Calls prog 59 #[.pointer (some ⟨b,o,none⟩)] w fun e w'=>e=.returned (.agg #[.int .i64 D,.int .i64 A,.int .i64 B,.int .i64 E])/\Below w.heap.size w w'):=KR;have HK0:Hid (∀w,AY w C v0 v1 v2 v3 c->Calls prog 60 #[.pointer (some ⟨C,0,none⟩),.int .i64 L0,.int .i64 D,.agg #[.int .i64 K,.int .i64 P]] w fun e w'=>e=.returned (.bool X0)/\Below w.heap.size w w'):=K0;have HK1:Hid (∀w,AY w C v0 v1 v2 v3 c->Calls prog 60 #[.pointer (some ⟨C,0,none⟩),.int .i64 L1,.int .i64 A,.agg #[.int .i64 K,.int .i64 P]] w fun e w'=>e=.returned (.bool X1)/\Below w.heap.size w w'):=K1;have HK2:Hid (∀w,AY w C v0 v1 v2 v3 c->Calls prog 60 #[.pointer (some ⟨C,0,none⟩),.int .i64 L2,.int .i64 B,.agg #[.int .i64 K,.int .i64 P]] w fun e w'=>e=.returned (.bool X2)/\Below w.heap.size w w'):=K2;have HK3:Hid (∀w,AY w C v0 v1 v2 v3 c->Calls prog 60 #[.pointer (some ⟨C,0,none⟩),.int .i64 L3,.int .i64 E,.agg #[.int .i64 K,.int .i64 P]] w fun e w'=>e=.returned (.bool X3)/\Below w.heap.size w w'):=K3;have HK4:Hid ((L4=9->BF P c.sign.length=true)->∀w,AY w C v0 v1 v2 v3 c->Ae w b o (AS ⟨io,D,A,B,E,n,bt⟩)->Calls prog 61 #[.pointer (some ⟨C,0,none⟩),.pointer (some ⟨b,o,none⟩),.int .i64 L4,.agg #[.int .i64 K,.int .i64 P]] w fun e w'=>e=.returned (.bool Y)/\Below w.heap.size w w'):=K4;have HP:Hid (X0=true->X1=true->L4=9->BF P c.sign.length=true):=hp;clear KM KR K0 K1 K2 K3 K4 hp hM hX0 hX1 hX2 hX3 hY;go_enter func42,ntmps42;go_wp2_with(first
  |(go_at_call 58;refine(HKM.out _ (HC0.out.below (A0 _ _)) (HI0.out.below (A0 _ _))).mono ?_;rintro e w1 ⟨rfl,hb1⟩;have HF1:Hid (FW w w1.heap.size L0 L1 L2 L3 L4 K P (w1.alloc (.cells #[.int .i64 K,.int .i64 P] 50))):=(by exact⟨bel (bel (A0 _ _) hb1) (A0 _ _),kc (A0 _ _) (kc hb1 sG),kc (A0 _ _) (kc hb1 sG),kc (A0 _ _) (kc hb1 sG),kc (A0 _ _) (kc hb1 sG),kc (A0 _ _) (kc hb1 sG),sG,sG⟩))
  |(go_at_call 59;refine(HKR.out _ (HI0.out.below HF1.out.bel)).mono ?_;rintro e w2 ⟨rfl,hb2⟩;have HF2:Hid (FW w w1.heap.size L0 L1 L2 L3 L4 K P w2):=HF1.out.next hb2))
 obtain⟨G,hG⟩:∃G,w1.heap.size=G:=⟨_,rfl⟩
 rw[hG]at HF2 ⊢
 go_loopw [16] (fun iv wr=>FW w G L0 L1 L2 L3 L4 K P wr/\∃j:Nat,j<=4/\iv=.int .i64 j/\Hid ((0<j->X0=true)/\(1<j->X1=true)/\(2<j->X2=true)/\(3<j->X3=true))) (fun iv _=>4-(intOf iv).toNat)
 case atStart=>exact⟨HF2.out,0,oM,rfl,⟨fun h=>absurd h oM,fun h=>absurd h oM,fun h=>absurd h oM,fun h=>absurd h oM⟩⟩
 case round=>
  clear HF1 HF2 HKM HKR hb1 hb2 hG;obtain⟨hF,j,hj,rfl,hp⟩:=hrel;have m0:=hF.m0;have m1:=hF.m1;have HF:Hid (FW w G L0 L1 L2 L3 L4 K P wr):=hF;have HC:Hid (∀v,Below wr.heap.size wr v->FW w G L0 L1 L2 L3 L4 K P v):=fun v hv=>HF.out.next hv;obtain rfl|rfl|rfl|rfl|rfl:j=0\/j=1\/j=2\/j=3\/j=4:=oM
  ·have r0:=hF.r0;have ix:∀w,(Instr.index 115 (.agg #[.int .i64 D,.int .i64 A,.int .i64 B,.int .i64 E]) (.int .i64 0)).run prog w=.ok (.int .i64 D) w:=fun w=>(LL D A B E w).1;clear hF;have HC1:Hid (∀v,Below wr.heap.size wr v->v.cell? ⟨w.heap.size,0,none⟩=some (.int .i64 L0)/\v.cell? ⟨G,0,none⟩=some (.int .i64 K)/\v.cell? ⟨G,1,none⟩=some (.int .i64 P)):=fun v hv=>⟨(HC.out v hv).r0,(HC.out v hv).m0,(HC.out v hv).m1⟩
   cases X0
   ·go_wp2;refine rG (fun v=>v.cell? ⟨w.heap.size,0,none⟩=some (.int .i64 L0)/\v.cell? ⟨G,0,none⟩=some (.int .i64 K)/\v.cell? ⟨G,1,none⟩=some (.int .i64 P)) fun hHeld=>?_;refine Tf 0 1 2 3 4 5 ?_;clear hHeld;refine Aw 6 fun K hK=>?_;go_simp;(go_at_call 60;refine(HK0.out _ ((HC0.out.below HF.out.bel).below (Ah _))).mono ?_;rintro e w3 ⟨rfl,hb3⟩;have HB3:=bel (Ah _) hb3;obtain⟨y0,y1,y2⟩:=HC1.out w3 HB3);exact Ly
   ·go_wp2;refine rG (fun v=>v.cell? ⟨w.heap.size,0,none⟩=some (.int .i64 L0)/\v.cell? ⟨G,0,none⟩=some (.int .i64 K)/\v.cell? ⟨G,1,none⟩=some (.int .i64 P)) fun hHeld=>?_;refine Tf 0 1 2 3 4 5 ?_;clear hHeld;refine Aw 6 fun K hK=>?_;go_simp;(go_at_call 60;refine(HK0.out _ ((HC0.out.below HF.out.bel).below (Ah _))).mono ?_;rintro e w3 ⟨rfl,hb3⟩;have HB3:=bel (Ah _) hb3;obtain⟨y0,y1,y2⟩:=HC1.out w3 HB3);try(go_wp2_with fail)
    refine As hK fun hHeld=>?_;clear hK K;refine Bo 7 ?_;refine wpAnyH_done kR ?_ _;go_wp2;go_roundw
    case rel=>exact⟨HC.out w3 HB3,1,oM,by first|rfl|go_num,⟨fun _=>fT,fun h=>absurd h oM,fun h=>absurd h oM,fun h=>absurd h oM⟩⟩
    case measure=>simp[intOf]
  ·have r0:=hF.r1;have ix:∀w,(Instr.index 115 (.agg #[.int .i64 D,.int .i64 A,.int .i64 B,.int .i64 E]) (.int .i64 1)).run prog w=.ok (.int .i64 A) w:=fun w=>(LL D A B E w).2.1;clear hF;have HC1:Hid (∀v,Below wr.heap.size wr v->v.cell? ⟨w.heap.size,1,none⟩=some (.int .i64 L1)/\v.cell? ⟨G,0,none⟩=some (.int .i64 K)/\v.cell? ⟨G,1,none⟩=some (.int .i64 P)):=fun v hv=>⟨(HC.out v hv).r1,(HC.out v hv).m0,(HC.out v hv).m1⟩
   cases X1
   ·go_wp2;refine rG (fun v=>v.cell? ⟨w.heap.size,1,none⟩=some (.int .i64 L1)/\v.cell? ⟨G,0,none⟩=some (.int .i64 K)/\v.cell? ⟨G,1,none⟩=some (.int .i64 P)) fun hHeld=>?_;refine Tf 0 1 2 3 4 5 ?_;clear hHeld;refine Aw 6 fun K hK=>?_;go_simp;(go_at_call 60;refine(HK1.out _ ((HC0.out.below HF.out.bel).below (Ah _))).mono ?_;rintro e w3 ⟨rfl,hb3⟩;have HB3:=bel (Ah _) hb3;obtain⟨y0,y1,y2⟩:=HC1.out w3 HB3);exact Ly
   ·go_wp2;refine rG (fun v=>v.cell? ⟨w.heap.size,1,none⟩=some (.int .i64 L1)/\v.cell? ⟨G,0,none⟩=some (.int .i64 K)/\v.cell? ⟨G,1,none⟩=some (.int .i64 P)) fun hHeld=>?_;refine Tf 0 1 2 3 4 5 ?_;clear hHeld;refine Aw 6 fun K hK=>?_;go_simp;(go_at_call 60;refine(HK1.out _ ((HC0.out.below HF.out.bel).below (Ah _))).mono ?_;rintro e w3 ⟨rfl,hb3⟩;have HB3:=bel (Ah _) hb3;obtain⟨y0,y1,y2⟩:=HC1.out w3 HB3);try(go_wp2_with fail)
    refine As hK fun hHeld=>?_;clear hK K;refine Bo 7 ?_;refine wpAnyH_done kR ?_ _;go_wp2;go_roundw
    case rel=>exact⟨HC.out w3 HB3,2,oM,by first|rfl|go_num,⟨fun _=>hp.out.1 oM,fun _=>fT,fun h=>absurd h oM,fun h=>absurd h oM⟩⟩
    case measure=>simp[intOf]
  ·have r0:=hF.r2;have ix:∀w,(Instr.index 115 (.agg #[.int .i64 D,.int .i64 A,.int .i64 B,.int .i64 E]) (.int .i64 2)).run prog w=.ok (.int .i64 B) w:=fun w=>(LL D A B E w).2.2.1;clear hF;have HC1:Hid (∀v,Below wr.heap.size wr v->v.cell? ⟨w.heap.size,2,none⟩=some (.int .i64 L2)/\v.cell? ⟨G,0,none⟩=some (.int .i64 K)/\v.cell? ⟨G,1,none⟩=some (.int .i64 P)):=fun v hv=>⟨(HC.out v hv).r2,(HC.out v hv).m0,(HC.out v hv).m1⟩
   cases X2
   ·go_wp2;refine rG (fun v=>v.cell? ⟨w.heap.size,2,none⟩=some (.int .i64 L2)/\v.cell? ⟨G,0,none⟩=some (.int .i64 K)/\v.cell? ⟨G,1,none⟩=some (.int .i64 P)) fun hHeld=>?_;refine Tf 0 1 2 3 4 5 ?_;clear hHeld;refine Aw 6 fun K hK=>?_;go_simp;(go_at_call 60;refine(HK2.out _ ((HC0.out.below HF.out.bel).below (Ah _))).mono ?_;rintro e w3 ⟨rfl,hb3⟩;have HB3:=bel (Ah _) hb3;obtain⟨y0,y1,y2⟩:=HC1.out w3 HB3);exact Ly
   ·go_wp2;refine rG (fun v=>v.cell? ⟨w.heap.size,2,none⟩=some (.int .i64 L2)/\v.cell? ⟨G,0,none⟩=some (.int .i64 K)/\v.cell? ⟨G,1,none⟩=some (.int .i64 P)) fun hHeld=>?_;refine Tf 0 1 2 3 4 5 ?_;clear hHeld;refine Aw 6 fun K hK=>?_;go_simp;(go_at_call 60;refine(HK2.out _ ((HC0.out.below HF.out.bel).below (Ah _))).mono ?_;rintro e w3 ⟨rfl,hb3⟩;have HB3:=bel (Ah _) hb3;obtain⟨y0,y1,y2⟩:=HC1.out w3 HB3);try(go_wp2_with fail)
    refine As hK fun hHeld=>?_;clear hK K;refine Bo 7 ?_;refine wpAnyH_done kR ?_ _;go_wp2;go_roundw
    case rel=>exact⟨HC.out w3 HB3,3,oM,by first|rfl|go_num,⟨fun _=>hp.out.1 oM,fun _=>hp.out.2.1 oM,fun _=>fT,fun h=>absurd h oM⟩⟩
    case measure=>simp[intOf]
  ·have r0:=hF.r3;have ix:∀w,(Instr.index 115 (.agg #[.int .i64 D,.int .i64 A,.int .i64 B,.int .i64 E]) (.int .i64 3)).run prog w=.ok (.int .i64 E) w:=fun w=>(LL D A B E w).2.2.2;clear hF;have HC1:Hid (∀v,Below wr.heap.size wr v->v.cell? ⟨w.heap.size,3,none⟩=some (.int .i64 L3)/\v.cell? ⟨G,0,none⟩=some (.int .i64 K)/\v.cell? ⟨G,1,none⟩=some (.int .i64 P)):=fun v hv=>⟨(HC.out v hv).r3,(HC.out v hv).m0,(HC.out v hv).m1⟩
   cases X3
   ·go_wp2;refine rG (fun v=>v.cell? ⟨w.heap.size,3,none⟩=some (.int .i64 L3)/\v.cell? ⟨G,0,none⟩=some (.int .i64 K)/\v.cell? ⟨G,1,none⟩=some (.int .i64 P)) fun hHeld=>?_;refine Tf 0 1 2 3 4 5 ?_;clear hHeld;refine Aw 6 fun K hK=>?_;go_simp;(go_at_call 60;refine(HK3.out _ ((HC0.out.below HF.out.bel).below (Ah _))).mono ?_;rintro e w3 ⟨rfl,hb3⟩;have HB3:=bel (Ah _) hb3;obtain⟨y0,y1,y2⟩:=HC1.out w3 HB3);exact Ly
   ·go_wp2;refine rG (fun v=>v.cell? ⟨w.heap.size,3,none⟩=some (.int .i64 L3)/\v.cell? ⟨G,0,none⟩=some (.int .i64 K)/\v.cell? ⟨G,1,none⟩=some (.int .i64 P)) fun hHeld=>?_;refine Tf 0 1 2 3 4 5 ?_;clear hHeld;refine Aw 6 fun K hK=>?_;go_simp;(go_at_call 60;refine(HK3.out _ ((HC0.out.below HF.out.bel).below (Ah _))).mono ?_;rintro e w3 ⟨rfl,hb3⟩;have HB3:=bel (Ah _) hb3;obtain⟨y0,y1,y2⟩:=HC1.out w3 HB3);try(go_wp2_with fail)
    refine As hK fun hHeld=>?_;clear hK K;refine Bo 7 ?_;refine wpAnyH_done kR ?_ _;go_wp2;go_roundw
    case rel=>exact⟨HC.out w3 HB3,4,oM,by first|rfl|go_num,⟨fun _=>hp.out.1 oM,fun _=>hp.out.2.1 oM,fun _=>hp.out.2.2.1 oM,fun _=>fT⟩⟩
    case measure=>simp[intOf]
  ·have r4:=hF.r4;obtain⟨rfl,rfl,rfl,rfl⟩:X0=true/\X1=true/\X2=true/\X3=true:=⟨hp.out.1 oM,hp.out.2.1 oM,hp.out.2.2.1 oM,hp.out.2.2.2 oM⟩
   clear hF hp;go_wp2_with(go_at_call 61;refine(HK4.out (HP.out rfl rfl) _ (HC0.out.below HF.out.bel) (HI0.out.below HF.out.bel)).mono ?_;rintro e w3 ⟨rfl,hb3⟩);go_ret;exact⟨Af sM,(HC.out w3 hb3).bel⟩
theorem G9:(prog.info? 42).map (fun i=>(i.zero,i.size,i.bytes))=some (some (.agg #[.string ⟨#[]⟩,.int .i64 0,.int .i64 0]),3,32):=kR
theorem Bu:(prog.info? 3).map (fun i=>(i.zero,i.size,i.bytes))=some (some (.int .i64 0),1,8):=kR
def Cm(l:List Int):List Value:=l.map fun x=>.int .i64 x
theorem Dj(l:List Int)(x:Int):Cm (l++[x])=Cm l++[.int .i64 x]:=by simp[Cm]
theorem Bj{w:World}{B:Nat}{t:TypeId}{k:Nat}{v:Value}{n:Nat}{xs:List Value}(h:w.ownsRow B t k v n xs)(hn:0<n):
 ∃g cap,v=.slice (some ⟨g,0,none⟩) n cap/\B<=g/\g<w.heap.size/\n<=cap/\cap<=maxLen/\∀ (j:Nat) (u:Value),xs[j]? =some u->w.cell? ⟨g,j,none⟩=some u:=by
 obtain⟨hl,h⟩:=h;rcases h with⟨_,h0⟩|⟨g,cap,cur,hv,hB,hg,hc1,hc2,hsz,htk⟩
 ·omega
 ·refine⟨g,cap,hv,hB,?_,hc1,hc2,fun j u hu=>?_⟩
  ·rcases Nat.lt_or_ge g w.heap.size with c|c
   ·exact c
   ·rw[Array.getElem?_eq_none c]at hg;cases hg
  ·have hj:j<xs.length:=(List.getElem?_eq_some_iff.1 hu).1;rw[←htk,List.getElem?_take_of_lt oM]at hu;simpa[World.cell?,hg]using hu
theorem AU{w:World}{B:Nat}{t:TypeId}{k:Nat}{v:Value}{n:Nat}{xs:List Value}(h:w.ownsRow B t k v n xs):∃p cap,v=.slice p n cap:=by
 obtain⟨hl,h⟩:=h;rcases h with⟨rfl,rfl⟩|⟨g,cap,cur,hv,-⟩
 ·exact⟨none,0,rfl⟩
 ·exact⟨_,_,hv⟩
theorem A7{w w':World}{B:Nat}{t:TypeId}{k:Nat}{v:Value}{n:Nat}{xs:List Value}(h:w.ownsRow B t k v n xs)(hb:∀g,v.ownBlock=some g->w'.heap[g]? =w.heap[g]?):w'.ownsRow B t k v n xs:=by
 refine⟨h.1,?_⟩;rcases h.2 with h5|⟨g,cap,cur,hv,hB,hg,hr⟩
 ·exact .inl h5
 ·exact .inr ⟨g,cap,cur,hv,hB,(hb g (by rw[hv];rfl)).trans hg,hr⟩
theorem Ak{w w':World}{B:Nat}{t:TypeId}{k:Nat}{v:Value}{n:Nat}{xs:List Value}(h:w.ownsRow B t k v n xs)(q:Below w.heap.size w w'):w'.ownsRow B t k v n xs:=A7 h fun g hg=>q.block g (h.lt g hg).2
theorem Bz{w:World}{B B':Nat}{t:TypeId}{k:Nat}{v:Value}{n:Nat}{xs:List Value}(h:w.ownsRow B t k v n xs)(hB:B'<=B):w.ownsRow B' t k v n xs:=
 ⟨h.1,h.2.imp id fun⟨g,cap,cur,h1,h2,h3⟩=>⟨g,cap,cur,h1,Nat.le_trans hB h2,h3⟩⟩
def DM(L x:Int):List Int:=if L=0 then [] else [x]
theorem Da(i:Ab)(r:Rw):A8 i r=(DM r.a i.a++DM r.b i.b)++DM r.c i.c:=by unfold A8 DM;simp
theorem Cc(L x:Int):(DM L x).length<=1:=by unfold DM;split<;>simp
structure L6(w:World)(G C:Nat)(L1 L2 L3 A B E:Int)(v:World):Prop where
 bel:Below w.heap.size w v
 hC:w.heap.size<C
 hG:G<C
 le:C<=v.heap.size
 r1:v.cell? ⟨w.heap.size,1,none⟩=some (.int .i64 L1)
 r2:v.cell? ⟨w.heap.size,2,none⟩=some (.int .i64 L2)
 r3:v.cell? ⟨w.heap.size,3,none⟩=some (.int .i64 L3)
 g1:v.cell? ⟨G,1,none⟩=some (.int .i64 A)
 g2:v.cell? ⟨G,2,none⟩=some (.int .i64 B)
 g3:v.cell? ⟨G,3,none⟩=some (.int .i64 E)
theorem L6.next{w:World}{G C:Nat}{L1 L2 L3 A B E:Int}{v v':World}(h:L6 w G C L1 L2 L3 A B E v)(k:Below C v v'):L6 w G C L1 L2 L3 A B E v':=by
 have c1:∀ {a:Addr} {u:Value},a.block<C->v.cell? a=some u->v'.cell? a=some u:=fun ha hu=>(k.cell ha).trans hu;exact⟨h.bel.trans (k.mono (Nat.le_of_lt h.hC)),h.hC,h.hG,Nat.le_trans h.le k.size,c1 h.hC h.r1,c1 h.hC h.r2,c1 h.hC h.r3,c1 h.hG h.g1,c1 h.hG h.g2,c1 h.hG h.g3⟩
theorem CV(b o:Nat)(i:Ab)(r:Rw)(w:World)(hi:Ae w b o (AS i)):
 Calls prog 44 #[BD r,.pointer (some ⟨b,o,none⟩)] w fun e w'=>∃v,e=.returned v/\w'.ownsRow w.heap.size 3 1 v (A8 i r).length (Cm (A8 i r))/\Below w.heap.size w w':=by
 rw[Da];have KR:=fun w k=>Ck b o i w k;have HI0:Hid (Ae w b o (AS i)):=hi;obtain⟨i0,hi0,hz0,hz1,hz3⟩:=info_parts Bu;obtain⟨L0,L1,L2,L3,L4⟩:=r;obtain⟨io,D,A,B,E,n,bt⟩:=i;unfold BD;simp only at KR ⊢;have HKR:Hid (∀w,Ae w b o (AS ⟨io,D,A,B,E,n,bt⟩)->Calls prog 59 #[.pointer (some ⟨b,o,none⟩)] w fun e w'=>e=.returned (.agg #[.int .i64 D,.int .i64 A,.int .i64 B,.int .i64 E])/\Below w.heap.size w w'):=KR;clear KR hi;obtain⟨R,hR⟩:∃R,(DM L1 A++DM L2 B)++DM L3 E=R:=⟨_,rfl⟩
 rw[hR];have HR:Hid ((DM L1 A++DM L2 B)++DM L3 E=R):=hR;clear hR;go_enter func44,ntmps44;go_wp2_with(go_at_call 59;refine(HKR.out _ (HI0.out.below (A0 _ _))).mono ?_;rintro e w1 ⟨rfl,hb1⟩);have HF1:Hid (L6 w w1.heap.size (w1.heap.size+1) L1 L2 L3 A B E (w1.alloc (.cells #[.int .i64 D,.int .i64 A,.int .i64 B,.int .i64 E] 115))):=by
  have hs:=hb1.size;simp at hs;exact⟨bel (bel (A0 _ _) hb1) (A0 _ _),oM,oM,sM,kc (A0 _ _) (kc hb1 sG),kc (A0 _ _) (kc hb1 sG),kc (A0 _ _) (kc hb1 sG),sG,sG,sG⟩
 obtain⟨G,hG⟩:∃G,w1.heap.size=G:=⟨_,rfl⟩
 obtain⟨W,hW⟩:∃W,w1.alloc (.cells #[.int .i64 D,.int .i64 A,.int .i64 B,.int .i64 E] 115)=W:=⟨_,rfl⟩
 rw[hW]at HF1 ⊢;rw[hG]at HF1 ⊢;clear hG hW
 go_loopw [5,7] (fun lv iv wr=>L6 w G (G+1) L1 L2 L3 A B E wr/\∃ (j:Nat) (l:List Int),1<=j/\j<=4/\iv=.int .i64 j/\l.length<=j-1/\Hid (wr.ownsRow (G+1) 3 1 lv l.length (Cm l))/\Hid ((j=1->l=[])/\(j=2->l=DM L1 A)/\(j=3->l=DM L1 A++DM L2 B)/\(j=4->l=(DM L1 A++DM L2 B)++DM L3 E))) (fun _ iv _=>4-(intOf iv).toNat)
 case atStart=>exact⟨HF1.out,1,[],oM,oM,rfl,sM,World.ownsRow_nil _ _ _ 1,⟨fun _=>rfl,fun h=>absurd h oM,fun h=>absurd h oM,fun h=>absurd h oM⟩⟩
 case round=>
  clear HF1 HKR hb1;obtain⟨hF,j,l,hj1,hj,rfl,hll,HO,HL⟩:=hrel;have HF:Hid (L6 w G (G+1) L1 L2 L3 A B E wr):=hF;have hGw:=hF.le;have hn1:G≠wr.heap.size:=oM;have hn2:w.heap.size≠wr.heap.size:=by have:=hF.hC;omega
  obtain rfl|rfl|rfl|rfl:j=1\/j=2\/j=3\/j=4:=oM
  ·have r0:=hF.r1;have g0:=hF.g1;have f0:=kc (A0 wr (.cells #[.int .i64 A] 3)) g0;have hl0:=HL.out.1 rfl;clear hF;by_cases hz:L1=0
   ·have hz':(L1 != 0)=false:=by simpa using hz
    have hz2:(L1==0)=true:=by simpa using hz
    have HZ:Hid (L1=0):=hz;clear hz;go_wp2;go_roundw
    case rel=>exact⟨HF.out,2,l,oM,oM,by first|rfl|go_num,oM,HO,⟨fun h=>absurd h oM,fun _=>by rw[hl0];unfold DM;simp[HZ.out],fun h=>absurd h oM,fun h=>absurd h oM⟩⟩
    case measure=>simp[intOf]
   ·have hz':(L1 != 0)=true:=by simpa using hz
    have hz2:(L1==0)=false:=by simpa using hz
    have HZ:Hid (¬L1=0):=hz;clear hz;go_wp2_with(first
     |(at_builtin;refine wpList_append_own_at _ rfl _ _ 61 rfl (G+1) 3 i0 _ 1 8 underlying61 hi0 hz0 hz1 hz3 rfl dE _ l.length (Cm l) rfl (World.ownsRow.alloc HO.out _) ⟨wr.heap.size,0,none⟩ 1 1 [.int .i64 A] rfl rfl (World.news_of_block (cs:=#[.int .i64 A]) (t:=3) (fr:=(0,0)) (heap_alloc_new wr _)) Kt mL oM sO ?_;intro v' w3 hown3 hgrow hnil hat;have HO3:Hid (w3.ownsRow (G+1) 3 1 v' (l.length+1) (Cm l++[.int .i64 A])):=hown3;have HB3:Hid (Below (G+1) wr w3):=(Below.alloc (Below.refl _ _) hGw _).grown hgrow sO (fun q e=>(HO.out.lt q e).1);clear hown3 hgrow hnil hat))
    go_roundw
    case rel=>exact⟨HF.out.next HB3.out,2,l++[A],oM,oM,by first|rfl|go_num,sO,by show _;rw[List.length_append,Dj];exact HO3.out,⟨fun h=>absurd h oM,fun _=>by rw[hl0,show DM L1 A=[A]from if_neg HZ.out];try rfl,fun h=>absurd h oM,fun h=>absurd h oM⟩⟩
    case measure=>simp[intOf]
  ·have r0:=hF.r2;have g0:=hF.g2;have f0:=kc (A0 wr (.cells #[.int .i64 B] 3)) g0;have hl0:=HL.out.2.1 rfl;clear hF;by_cases hz:L2=0
   ·have hz':(L2 != 0)=false:=by simpa using hz
    have hz2:(L2==0)=true:=by simpa using hz
    have HZ:Hid (L2=0):=hz;clear hz;go_wp2;go_roundw
    case rel=>exact⟨HF.out,3,l,oM,oM,by first|rfl|go_num,oM,HO,⟨fun h=>absurd h oM,fun h=>absurd h oM,fun _=>by rw[hl0];unfold DM;simp[HZ.out],fun h=>absurd h oM⟩⟩
    case measure=>simp[intOf]
   ·have hz':(L2 != 0)=true:=by simpa using hz
    have hz2:(L2==0)=false:=by simpa using hz
    have HZ:Hid (¬L2=0):=hz;clear hz;go_wp2_with(first
     |(at_builtin;refine wpList_append_own_at _ rfl _ _ 61 rfl (G+1) 3 i0 _ 1 8 underlying61 hi0 hz0 hz1 hz3 rfl dE _ l.length (Cm l) rfl (World.ownsRow.alloc HO.out _) ⟨wr.heap.size,0,none⟩ 1 1 [.int .i64 B] rfl rfl (World.news_of_block (cs:=#[.int .i64 B]) (t:=3) (fr:=(0,0)) (heap_alloc_new wr _)) Kt mL oM sO ?_;intro v' w3 hown3 hgrow hnil hat;have HO3:Hid (w3.ownsRow (G+1) 3 1 v' (l.length+1) (Cm l++[.int .i64 B])):=hown3;have HB3:Hid (Below (G+1) wr w3):=(Below.alloc (Below.refl _ _) hGw _).grown hgrow sO (fun q e=>(HO.out.lt q e).1);clear hown3 hgrow hnil hat))
    go_roundw
    case rel=>exact⟨HF.out.next HB3.out,3,l++[B],oM,oM,by first|rfl|go_num,sO,by show _;rw[List.length_append,Dj];exact HO3.out,⟨fun h=>absurd h oM,fun h=>absurd h oM,fun _=>by rw[hl0,show DM L2 B=[B]from if_neg HZ.out];try rfl,fun h=>absurd h oM⟩⟩
    case measure=>simp[intOf]
  ·have r0:=hF.r3;have g0:=hF.g3;have f0:=kc (A0 wr (.cells #[.int .i64 E] 3)) g0;have hl0:=HL.out.2.2.1 rfl;clear hF;by_cases hz:L3=0
   ·have hz':(L3 != 0)=false:=by simpa using hz
    have hz2:(L3==0)=true:=by simpa using hz
    have HZ:Hid (L3=0):=hz;clear hz;go_wp2;go_roundw
    case rel=>exact⟨HF.out,4,l,oM,oM,by first|rfl|go_num,oM,HO,⟨fun h=>absurd h oM,fun h=>absurd h oM,fun h=>absurd h oM,fun _=>by rw[hl0];unfold DM;simp[HZ.out]⟩⟩
    case measure=>simp[intOf]
   ·have hz':(L3 != 0)=true:=by simpa using hz
    have hz2:(L3==0)=false:=by simpa using hz
    have HZ:Hid (¬L3=0):=hz;clear hz;go_wp2_with(first
     |(at_builtin;refine wpList_append_own_at _ rfl _ _ 61 rfl (G+1) 3 i0 _ 1 8 underlying61 hi0 hz0 hz1 hz3 rfl dE _ l.length (Cm l) rfl (World.ownsRow.alloc HO.out _) ⟨wr.heap.size,0,none⟩ 1 1 [.int .i64 E] rfl rfl (World.news_of_block (cs:=#[.int .i64 E]) (t:=3) (fr:=(0,0)) (heap_alloc_new wr _)) Kt mL oM sO ?_;intro v' w3 hown3 hgrow hnil hat;have HO3:Hid (w3.ownsRow (G+1) 3 1 v' (l.length+1) (Cm l++[.int .i64 E])):=hown3;have HB3:Hid (Below (G+1) wr w3):=(Below.alloc (Below.refl _ _) hGw _).grown hgrow sO (fun q e=>(HO.out.lt q e).1);clear hown3 hgrow hnil hat))
    go_roundw
    case rel=>exact⟨HF.out.next HB3.out,4,l++[E],oM,oM,by first|rfl|go_num,sO,by show _;rw[List.length_append,Dj];exact HO3.out,⟨fun h=>absurd h oM,fun h=>absurd h oM,fun h=>absurd h oM,fun _=>by rw[hl0,show DM L3 E=[E]from if_neg HZ.out];try rfl⟩⟩
    case measure=>simp[intOf]
  ·have hl0:=HL.out.2.2.2 rfl;clear hF;go_wp2;go_ret;refine⟨_,rfl,?_,HF.out.bel⟩;rw[←HR.out,←hl0];exact Bz HO.out (by have:=HF.out.hC;omega)

def Kw(b:Bk):List Value:=[.bool b.loop,.int .i64 b.par,.int .i64 b.ahead]
def Bb(l:List Bk):List Value:=l.flatMap Kw
theorem Cr(l:List Bk)(b:Bk):Bb (l++[b])=Bb l++Kw b:=by simp[Bb]
theorem BM:∀l:List Bk,(Bb l).length=l.length*3
 |[]=>rfl
 |b::l=>by
  have e:Bb (b::l)=Kw b++Bb l:=by simp[Bb]
  rw[e,List.length_append,BM l];simp[Kw];omega
theorem Cq(l:List Bk)(b:Bk)(j:Nat){u:Value}(h:(Kw b)[j]? =some u):(Bb (l++[b]))[l.length*3+j]? =some u:=by
 rw[Cr,List.getElem?_append_right (by rw[BM];omega),BM,Nat.add_sub_cancel_left];exact h
def AG(l:List Nat):List Value:=l.map fun(x:Nat)=>Value.int .i64 (x:Int)
theorem Hu(l:List Nat)(x:Nat):AG (l++[x])=AG l++[.int .i64 (x:Int)]:=by simp[AG]
theorem EG(l:List Nat)(n:Nat):(AG l).take n=AG (l.take n):=by simp[AG,List.map_take]
def Lr(C gi n:Nat)(vs vo:Value)(j:Nat):Value:=if j=0 then .pointer (some ⟨C,0,none⟩)else if j=1 then .slice (some ⟨gi,0,none⟩) n n else if j=2 then vs else vo
structure WS(E G C n gi:Nat)(vs vo:Value)(w:World)(s:Wk):Prop where
 g:w.rowIs G 69 4 (Lr C gi n vs vo)
 i:w.rowIs gi 4 n (fun j=>.bool (decide (j∈s.set)))
 set:w.ownsRow E 3 1 vs s.set.length (AG s.set)
 opn:w.ownsRow E 120 3 vo s.opens.length (Bb s.opens.reverse)
 hG:E<=G
 hgi:E<=gi
 n1:gi≠G
 n2:vs.ownBlock≠some G
 n3:vs.ownBlock≠some gi
 n4:vo.ownBlock≠some G
 n5:vo.ownBlock≠some gi
 n6:∀b,vs.ownBlock=some b->vo.ownBlock≠some b
section
variable {E G C n gi : Nat} {vs vo : Value} {w w' : World} {s : Wk}
theorem WS.below(h:WS E G C n gi vs vo w s)(k:Below w.heap.size w w'):WS E G C n gi vs vo w' s:=
 ⟨h.g.of_block (k.block _ h.g.lt),h.i.of_block (k.block _ h.i.lt),Ak h.set k,Ak h.opn k,h.hG,h.hgi,h.n1,h.n2,h.n3,h.n4,h.n5,h.n6⟩
theorem WS.c0(h:WS E G C n gi vs vo w s):w.cell? ⟨G,0,none⟩=some (.pointer (some ⟨C,0,none⟩)):=h.g.cell (i:=0) dE
theorem WS.c1(h:WS E G C n gi vs vo w s):w.cell? ⟨G,1,none⟩=some (.slice (some ⟨gi,0,none⟩) n n):=h.g.cell (i:=1) dE
theorem WS.c2(h:WS E G C n gi vs vo w s):w.cell? ⟨G,2,none⟩=some vs:=h.g.cell (i:=2) dE
theorem WS.c3(h:WS E G C n gi vs vo w s):w.cell? ⟨G,3,none⟩=some vo:=h.g.cell (i:=3) dE
theorem WS.lt(h:WS E G C n gi vs vo w s):E<=w.heap.size:=Nat.le_trans h.hG (Nat.le_of_lt h.g.lt)
end
theorem Ep(E G C n gi:Nat)(vs vo:Value)(s:Wk)(w:World)(h:WS E G C n gi vs vo w s)(hn:s.opens.length<=64):
 Calls prog 62 #[.pointer (some ⟨G,0,none⟩)] w fun e w'=>(∃A:Int,e=.returned (.tuple #[.agg #[.bool (Bc s),.int .i64 (CS s),.int .i64 A],.bool (!s.opens.isEmpty)]))/\Below w.heap.size w w':=by
 have c3:=h.c3;have ho:=h.opn;have hG:=h.g.lt;have nG:G≠w.heap.size:=oM;obtain⟨X,O⟩:=s;cases O with
 |nil=>
  obtain⟨p,q,rfl⟩:=AU ho;unfold Bc CS;simp only[List.isEmpty_nil,Bool.not_true]at c3 ⊢;have f3:(w.alloc (.cells #[.bool false,.int .i64 0,.int .i64 0] 120)).cell? ⟨G,3,none⟩=some (.slice p 0 q):=kc (A0 _ _) c3;clear ho h;go_enter func62,ntmps62;go_wp2;refine bodyPost_ret (by simp[results,results62,go_sem];try rfl) rfl ?_;exact⟨⟨0,rfl⟩,gG⟩
 |cons b r=>
  obtain⟨g,cap,rfl,hE,hg,hc1,hc2,hcl⟩:=Bj ho sM;unfold Bc CS;simp only[List.isEmpty_cons,Bool.not_false]at c3 ⊢;obtain⟨L,P,A⟩:=b;simp only[List.reverse_cons]at hcl;have hl:r.reverse.length=r.length:=List.length_reverse;have x0:=hcl (r.length*3) (.bool L) N5;have x1:=hcl (r.length*3+1) (.int .i64 P) N4;have x2:=hcl (r.length*3+2) (.int .i64 A) MZ;simp only[List.length_cons]at c3 hn hc1;obtain⟨m,hm⟩:∃m,r.length=m:=⟨_,rfl⟩
  rw[hm]at x0 x1 x2 c3 hn hc1;obtain⟨N,hN⟩:∃N,m+1=N:=⟨_,rfl⟩
  rw[hN]at c3 hn hc1;have hw:IntKind.i64.wrap ((N:Int)-1)=(m:Int):=by rw[IntKind.wrap_i64];omega
  have h0:((N:Int)==0)=false:=by have:(N:Int)≠0:=oM;simpa using this
  have h0':(N==0)=false:=by have:N≠0:=oM;simpa using this
  have i1:(0:Int)<=(m:Int):=oM;have i2:(m:Int)<(N:Int):=oM;have ng:g≠w.heap.size:=oM;have f3:(w.alloc (.cells #[.bool false,.int .i64 0,.int .i64 0] 120)).cell? ⟨G,3,none⟩=some (.slice (some ⟨g,0,none⟩) N cap):=kc (A0 _ _) c3;have y0:(w.alloc (.cells #[.bool false,.int .i64 0,.int .i64 0] 120)).cell? ⟨g,m*3,none⟩=some (.bool L):=kc (A0 _ _) x0;have y1:(w.alloc (.cells #[.bool false,.int .i64 0,.int .i64 0] 120)).cell? ⟨g,m*3+1,none⟩=some (.int .i64 P):=kc (A0 _ _) x1;have y2:(w.alloc (.cells #[.bool false,.int .i64 0,.int .i64 0] 120)).cell? ⟨g,m*3+2,none⟩=some (.int .i64 (A:Int)):=kc (A0 _ _) x2;have HN:Hid (m+1=N):=hN;clear hcl ho h hm hl hN hE;go_enter func62,ntmps62;go_wp2;refine rG (fun v=>v.cell? ⟨G,3,none⟩=some (.slice (some ⟨g,0,none⟩) N cap)/\v.cell? ⟨g,m*3,none⟩=some (.bool L)/\v.cell? ⟨g,m*3+1,none⟩=some (.int .i64 P)/\v.cell? ⟨g,m*3+2,none⟩=some (.int .i64 (A:Int))) fun hHeld=>?_;refine Tf 0 1 2 3 4 5 ?_;refine Tf 6 7 8 9 10 11 ?_;clear hHeld;refine Aw 12 fun K hK=>?_;go_simp;refine As hK fun hHeld=>?_;clear hK K;refine Bo 13 ?_;refine wpAnyH_done kR ?_ _;go_wp2;refine bodyPost_ret (by simp[results,results62,go_sem];try rfl) rfl ?_;exact⟨⟨_,rfl⟩,gG⟩
theorem DG(op:Int)(w:World):Calls prog 79 #[.int .i64 op] w fun e w'=>e=.returned (.bool (Fa op))/\w'=w:=by
 unfold Fa;by_cases h:3<=op
 all_goals
  go_enter func79,ntmps79;go_wp2;go_ret;exact⟨Af (by simp[h];try omega),rfl⟩
theorem Ge(op:Int)(w:World):Calls prog 63 #[.int .i64 op] w fun e w'=>e=.returned (.bool (C5 op))/\w'=w:=by
 have HK:Hid (∀w,Calls prog 79 #[.int .i64 op] w fun e w'=>e=.returned (.bool (Fa op))/\w'=w):=DG op;by_cases h:29<=op/\op<=33
 ·have hl:C5 op=true:=by unfold C5;simp;omega
  rw[hl];obtain rfl|rfl|rfl|rfl|rfl:op=29\/op=30\/op=31\/op=32\/op=33:=oM
  all_goals
   clear h hl HK;go_enter func63,ntmps63;go_wp2;go_ret;exact⟨rfl,rfl⟩
 ·have hl:C5 op=Fa op:=by
   unfold C5;have:(decide (29<=op)&&decide (op<=33))=false:=sO;rw[this];rfl
  rw[hl];have e1:(op==29)=false:=by have:op≠29:=oM;simpa using this
  have e2:(op==30)=false:=by have:op≠30:=oM;simpa using this
  have e3:(op==31)=false:=by have:op≠31:=oM;simpa using this
  have e4:(op==32)=false:=by have:op≠32:=oM;simpa using this
  have e5:(op==33)=false:=by have:op≠33:=oM;simpa using this
  clear h hl;go_enter func63,ntmps63;go_wp2_with(go_at_call 79;refine(HK.out _).mono ?_;rintro e w1 ⟨rfl,rfl⟩);go_ret;exact⟨rfl,rfl⟩
def Me(s:ByteArray)(f i:Nat):Bs:=((bs s).drop f).take (i-f)
def GQ(s:ByteArray):Mq:=GR [] 0 (ER [] (bs s))
def Jv(s:ByteArray)(acc:List Ba)(n f i:Nat):Prop:=
 (i<=s.size/\f<=i/\GQ s=GR acc n (ER (Me s f i) ((bs s).drop i)))\/(i=s.size+1/\GQ s=⟨acc,0,0⟩)
structure PL(s:ByteArray)(w wr:World)(ov:Value)(j f n:Nat)(acc:List Ba):Prop where
 N8:Na wr w.heap.size ov acc
 may:∀p∈acc,Bm p=true
 lines:Jv s acc n f j
structure MW(w:World)(H G C b o:Nat)(vo:Value)(L0 L1 L2 L3 L4 op:Int)(X:Bool)(P A:Int)(v:World):Prop where
 bel:Below w.heap.size w v
 r0:v.cell? ⟨w.heap.size,0,none⟩=some (.int .i64 L0)
 r1:v.cell? ⟨w.heap.size,1,none⟩=some (.int .i64 L1)
 r2:v.cell? ⟨w.heap.size,2,none⟩=some (.int .i64 L2)
 r3:v.cell? ⟨w.heap.size,3,none⟩=some (.int .i64 L3)
 r4:v.cell? ⟨w.heap.size,4,none⟩=some (.int .i64 L4)
 m0:v.cell? ⟨H,0,none⟩=some (.bool X)
 m1:v.cell? ⟨H,1,none⟩=some (.int .i64 P)
 g0:v.cell? ⟨G,0,none⟩=some (.pointer (some ⟨C,0,none⟩))
 g3:v.cell? ⟨G,3,none⟩=some vo
 e0:v.cell? ⟨b,o,none⟩=some (.int .i64 op)
theorem MW.next{w:World}{H G C b o:Nat}{vo:Value}{L0 L1 L2 L3 L4 op:Int}{X:Bool}{P A:Int}{v v':World}(h:MW w H G C b o vo L0 L1 L2 L3 L4 op X P A v)(k:Below v.heap.size v v'):MW w H G C b o vo L0 L1 L2 L3 L4 op X P A v':=
 ⟨Go.Proofs.Ytchbjcldkcfffaa.bel h.bel k,kc k h.r0,kc k h.r1,kc k h.r2,kc k h.r3,kc k h.r4,kc k h.m0,kc k h.m1,kc k h.g0,kc k h.g3,kc k h.e0⟩
theorem ET(E G C n gi:Nat)(vs vo:Value)(s:Wk)(v0 v1 v2 v3:Value)(c:Cd)(hk:Bl c)(b o:Nat)(i:Ab)(r:Rw)(w:World)(h:WS E G C n gi vs vo w s)(hn:s.opens.length<=64)(hc:AY w C v0 v1 v2 v3 c)(hi:Ae w b o (AS i)):
 Calls prog 43 #[.pointer (some ⟨G,0,none⟩),.pointer (some ⟨b,o,none⟩),BD r] w fun e w'=>e=.returned (.bool (AC c s i r))/\Below w.heap.size w w':=by
 have KI:=Ep E G C n gi vs vo s;have KM:=fun w h k=>D5 C v0 v1 v2 v3 c hk b o i r w h k;have KL:=Ge i.op;have HC0:Hid (AY w C v0 v1 v2 v3 c):=hc;have HI0:Hid (Ae w b o (AS i)):=hi;have HS0:Hid (WS E G C n gi vs vo w s):=h;have hlen:∃p q,vo=.slice p s.opens.length q:=AU h.opn;obtain⟨p,q,rfl⟩:=hlen;have e0:=hi.at 0 rfl;rw[Nat.add_zero]at e0;have hop:(!s.opens.isEmpty)=false->Bc s=false:=fun hh=>by
  unfold Bc;cases hO:s.opens with
  |nil=>rfl
  |cons b r=>rw[hO]at hh;simp at hh
 unfold AC;obtain⟨X,hX⟩:∃X,Bc s=X:=⟨_,rfl⟩
 obtain⟨Y,hY⟩:∃Y,(!s.opens.isEmpty)=Y:=⟨_,rfl⟩
 obtain⟨P,hP⟩:∃P,CS s=P:=⟨_,rfl⟩
 obtain⟨Z,hZ⟩:∃Z,C5 i.op=Z:=⟨_,rfl⟩
 obtain⟨M,hM⟩:∃M,At c.regs i r=M:=⟨_,rfl⟩
 obtain⟨N,hN⟩:∃N,s.opens.length=N:=⟨_,rfl⟩
 obtain⟨op,hopp⟩:∃x,i.op=x:=⟨_,rfl⟩
 rw[hX,hY]at hop;simp only[hX,hY,hP,hN]at KI ⊢;simp only[hM]at KM ⊢;simp only[hZ]at KL ⊢;rw[hN]at HS0 hn;rw[hopp]at e0 KL ⊢;obtain⟨L0,L1,L2,L3,L4⟩:=r;obtain⟨K,Q⟩:=M;unfold BD at KM ⊢;unfold CQ at KM;simp only at KM;rw[Jr];have HKI:Hid (∀w,WS E G C n gi vs (.slice p N q) w s->Calls prog 62 #[.pointer (some ⟨G,0,none⟩)] w fun e w'=>(∃A:Int,e=.returned (.tuple #[.agg #[.bool X,.int .i64 P,.int .i64 A],.bool Y]))/\Below w.heap.size w w'):=fun w hw=>KI w hw hn;have HKM:Hid (∀w,AY w C v0 v1 v2 v3 c->Ae w b o (AS i)->Calls prog 58 #[.pointer (some ⟨C,0,none⟩),.pointer (some ⟨b,o,none⟩),.agg #[.int .i64 L0,.int .i64 L1,.int .i64 L2,.int .i64 L3,.int .i64 L4]] w fun e w'=>e=.returned (.agg #[.int .i64 K,.int .i64 Q])/\Below w.heap.size w w'):=KM;have HKL:Hid (∀w,Calls prog 63 #[.int .i64 op] w fun e w'=>e=.returned (.bool Z)/\w'=w):=KL;have HE0:Hid (w.cell? ⟨b,o,none⟩=some (.int .i64 op)):=e0;have HOP:Hid (Y=false->X=false):=hop;clear KI KM KL h hc hi hk hX hY hP hZ hM hN hopp e0 hop hn;by_cases h34:op=34\/op=36
 ·rw[if_pos h34];cases X
  ·cases Y
   all_goals
    rcases h34 with h|h
    ·have e1:(op==34)=true:=(by have:op=34:=oM;simpa using this);have e2:(op==36)=false:=(by have:op≠36:=oM;simpa using this);have e3:(op==35)=false:=(by have:op≠35:=oM;simpa using this);have e4:(op==37)=false:=(by have:op≠37:=oM;simpa using this)
     clear h;exact Lu
    ·have e1:(op==34)=false:=(by have:op≠34:=oM;simpa using this);have e2:(op==36)=true:=(by have:op=36:=oM;simpa using this);have e3:(op==35)=false:=(by have:op≠35:=oM;simpa using this);have e4:(op==37)=false:=(by have:op≠37:=oM;simpa using this)
     clear h;exact Lu
  ·cases Y
   ·exact absurd (HOP.out rfl) dE
   ·rcases h34 with h|h
    ·have e1:(op==34)=true:=(by have:op=34:=oM;simpa using this);have e2:(op==36)=false:=(by have:op≠36:=oM;simpa using this);have e3:(op==35)=false:=(by have:op≠35:=oM;simpa using this);have e4:(op==37)=false:=(by have:op≠37:=oM;simpa using this)
     clear h;exact Lv
    ·have e1:(op==34)=false:=(by have:op≠34:=oM;simpa using this);have e2:(op==36)=true:=(by have:op=36:=oM;simpa using this);have e3:(op==35)=false:=(by have:op≠35:=oM;simpa using this);have e4:(op==37)=false:=(by have:op≠37:=oM;simpa using this)
     clear h;exact Lv
 rw[if_neg h34];by_cases h35:op=35
 ·rw[if_pos h35];have e1:(op==34)=false:=(by have:op≠34:=oM;simpa using this);have e2:(op==36)=false:=(by have:op≠36:=oM;simpa using this);have e3:(op==35)=true:=(by have:op=35:=oM;simpa using this);have e4:(op==37)=false:=(by have:op≠37:=oM;simpa using this)
  clear h34 h35;cases X
  ·cases Y
   all_goals
    exact Lu
  ·cases Y
   ·exact absurd (HOP.out rfl) dE
   ·exact Lv
 rw[if_neg h35];by_cases h37:op=37
 ·rw[if_pos h37];have e1:(op==34)=false:=(by have:op≠34:=oM;simpa using this);have e2:(op==36)=false:=(by have:op≠36:=oM;simpa using this);have e3:(op==35)=false:=(by have:op≠35:=oM;simpa using this);have e4:(op==37)=true:=(by have:op=37:=oM;simpa using this)
  clear h34 h35 h37;cases X
  ·cases Y
   all_goals
    exact Lu
  ·cases Y
   ·exact absurd (HOP.out rfl) dE
   ·exact Lv
 rw[if_neg h37];have e1:(op==34)=false:=by have:op≠34:=(fun e=>h34 (.inl e));simpa using this
 have e2:(op==36)=false:=by have:op≠36:=(fun e=>h34 (.inr e));simpa using this
 have e3:(op==35)=false:=by simpa using h35
 have e4:(op==37)=false:=by simpa using h37
 clear h34 h35 h37;cases X
 ·cases Y
  all_goals
   go_enter func43,ntmps43;go_wp2_with(go_at_call 62;refine(HKI.out _ (HS0.out.below (A0 _ _))).mono ?_;rintro e w1 ⟨⟨A,rfl⟩,hb1⟩;have HF:Hid (MW w w1.heap.size G C b o (.slice p N q) L0 L1 L2 L3 L4 op false P A (w1.alloc (.cells #[.bool false,.int .i64 P,.int .i64 A] 120))):=M5;have f0:=HF.out.m0;have f1:=HF.out.g3;have f2:=HF.out.e0;have f3:=HF.out.m1;have f4:=HF.out.g0);refine rG (fun v=>v.cell? ⟨b,o,none⟩=some (.int .i64 op)) fun hHeld=>?_;refine Tc 0 1 2 ?_;refine Kd 3 4 5 6 ?_;refine Kd 7 8 9 10 ?_;refine Kd 11 12 13 14 ?_;refine Kd 15 16 17 18 ?_;refine Ek 19 ?_;refine Ek 20 ?_;refine Tb 21 22 ?_;refine wpAnyH_done kR ?_ _;go_wp2;go_ret;exact⟨Af sM,bel HF.out.bel (Ah _)⟩
 ·cases Y
  ·exact absurd (HOP.out rfl) dE
  ·cases Z
   ·go_enter func43,ntmps43;go_wp2_with(go_at_call 62;refine(HKI.out _ (HS0.out.below (A0 _ _))).mono ?_;rintro e w1 ⟨⟨A,rfl⟩,hb1⟩;have HF:Hid (MW w w1.heap.size G C b o (.slice p N q) L0 L1 L2 L3 L4 op true P A (w1.alloc (.cells #[.bool true,.int .i64 P,.int .i64 A] 120))):=M5;have f0:=HF.out.m0;have f1:=HF.out.g3;have f2:=HF.out.e0;have f3:=HF.out.m1;have f4:=HF.out.g0);refine rG (fun v=>v.cell? ⟨b,o,none⟩=some (.int .i64 op)) fun hHeld=>?_;refine Tf 0 1 2 3 4 5 ?_;refine Bo 6 ?_;clear hHeld;refine Aw 7 fun K hK=>?_;go_simp;(go_at_call 63;refine(HKL.out _).mono ?_;rintro e w3 ⟨rfl,rfl⟩);try(go_wp2_with fail)
    refine As hK fun hHeld=>?_;clear hK K;refine Bo 8 ?_;refine Kd 9 10 11 12 ?_;refine Kd 13 14 15 16 ?_;refine Ek 17 ?_;refine Ek 18 ?_;refine Ek 19 ?_;refine Tc 20 21 22 ?_;refine wpAnyH_done kR ?_ _;go_wp2;go_ret;exact⟨Af sM,bel HF.out.bel (Ah _)⟩
   ·cases hl:(K==3)<;>cases hq:(Q==P)
    all_goals
     go_enter func43,ntmps43;go_wp2_with(go_at_call 62;refine(HKI.out _ (HS0.out.below (A0 _ _))).mono ?_;rintro e w1 ⟨⟨A,rfl⟩,hb1⟩;have HF:Hid (MW w w1.heap.size G C b o (.slice p N q) L0 L1 L2 L3 L4 op true P A (w1.alloc (.cells #[.bool true,.int .i64 P,.int .i64 A] 120))):=M5;have f0:=HF.out.m0;have f1:=HF.out.g3;have f2:=HF.out.e0;have f3:=HF.out.m1;have f4:=HF.out.g0);have HCX:Hid (∀v,Below (w1.alloc (.cells #[.bool true,.int .i64 P,.int .i64 A] 120)).heap.size (w1.alloc (.cells #[.bool true,.int .i64 P,.int .i64 A] 120)) v->v.cell? ⟨b,o,none⟩=some (.int .i64 op)/\v.cell? ⟨G,0,none⟩=some (.pointer (some ⟨C,0,none⟩))/\v.cell? ⟨w1.heap.size,1,none⟩=some (.int .i64 P)/\v.cell? ⟨w.heap.size,0,none⟩=some (.int .i64 L0)/\v.cell? ⟨w.heap.size,1,none⟩=some (.int .i64 L1)/\v.cell? ⟨w.heap.size,2,none⟩=some (.int .i64 L2)/\v.cell? ⟨w.heap.size,3,none⟩=some (.int .i64 L3)/\v.cell? ⟨w.heap.size,4,none⟩=some (.int .i64 L4)):=fun v hv=>⟨(HF.out.next hv).e0,(HF.out.next hv).g0,(HF.out.next hv).m1,(HF.out.next hv).r0,(HF.out.next hv).r1,(HF.out.next hv).r2,(HF.out.next hv).r3,(HF.out.next hv).r4⟩
     have f5:=HF.out.r0;have f6:=HF.out.r1;have f7:=HF.out.r2;have f8:=HF.out.r3;have f9:=HF.out.r4;refine rG (fun v=>v.cell? ⟨b,o,none⟩=some (.int .i64 op)/\v.cell? ⟨G,0,none⟩=some (.pointer (some ⟨C,0,none⟩))/\v.cell? ⟨w1.heap.size,1,none⟩=some (.int .i64 P)/\v.cell? ⟨w.heap.size,0,none⟩=some (.int .i64 L0)/\v.cell? ⟨w.heap.size,1,none⟩=some (.int .i64 L1)/\v.cell? ⟨w.heap.size,2,none⟩=some (.int .i64 L2)/\v.cell? ⟨w.heap.size,3,none⟩=some (.int .i64 L3)/\v.cell? ⟨w.heap.size,4,none⟩=some (.int .i64 L4)) fun hHeld=>?_;refine Tf 0 1 2 3 4 5 ?_;refine Bo 6 ?_;clear hHeld;refine Aw 7 fun K hK=>?_;go_simp;(go_at_call 63;refine(HKL.out _).mono ?_;rintro e w3 ⟨rfl,rfl⟩);try(go_wp2_with fail)
     refine As hK fun hHeld=>?_;clear hK K;refine Tf 8 9 10 11 12 13 ?_;refine Tc 14 16 17 ?_;refine Bo 18 ?_;clear hHeld;refine Aw 15 fun K hK=>?_;go_simp;(go_at_call 58;refine(HKM.out _ (HC0.out.below (bel HF.out.bel (Ah _))) (HI0.out.below (bel HF.out.bel (Ah _)))).mono ?_;rintro e w3 ⟨rfl,hb3⟩;have HB3:=bel (Ah _) hb3;obtain⟨y0,y1,y2,y3,y4,y5,y6,y7⟩:=HCX.out w3 HB3);try(go_wp2_with fail)
     refine As hK fun hHeld=>?_;clear hK K;refine Tc 19 20 21 ?_;refine Bo 22 ?_;refine wpAnyH_done kR ?_ _;go_wp2;go_ret;exact⟨Af (by simp[hl,hq]),(HF.out.next HB3).bel⟩

def Du(p:Option Addr)(c k sz:Nat):Option Addr:=if c=k then p else p.map (·.add (k*sz))
theorem Hw(p:Option Addr)(h c sz:Nat):sliced p 0 h c sz=.slice p h c:=by
 unfold sliced;by_cases c0:c=0
 ·subst c0;simp
 ·rw[if_neg oM];cases p<;>simp[Addr.add]
theorem EI{t:TypeId}{sz:Nat}(hu:prog.underlying t=some (.slice (prog.elem t)))(hz:∀w,(sizeOf (prog.elem t)).run prog w=.ok sz w)(p:Option Addr)(n c h:Nat)(hh:h<=c)(w:World):
 (Instr.sliceAt t (.slice p n c) none (some (.int .i64 h)) none).run prog w=.ok (.slice p h c) w:=by
 rw[run_sliceAt_slice (h:=hu),run_slice_h (ht:=hu) (h0:=by omega) (h2:=by omega),hz];rw[Result.andThen_ok,Int.toNat_natCast,Hw p h c sz]
theorem FI{t:TypeId}{sz:Nat}(hu:prog.underlying t=some (.slice (prog.elem t)))(hz:∀w,(sizeOf (prog.elem t)).run prog w=.ok sz w)(p:Option Addr)(n c k:Nat)(hk:k<=n)(w:World):
 (Instr.sliceAt t (.slice p n c) (some (.int .i64 k)) none none).run prog w=.ok (.slice (Du p c k sz) (n-k) (c-k)) w:=by
 rw[run_sliceAt_slice (h:=hu),run_slice_l (ht:=hu) (h0:=by omega) (h1:=by omega),hz];rw[Result.andThen_ok,Int.toNat_natCast];unfold sliced Du;simp
theorem Km:prog.underlying 61=some (.slice (prog.elem 61)):=kR
theorem Kz:prog.elem 61=3:=kR
theorem Jf(w:World):(sizeOf (prog.elem 61)).run prog w=.ok 1 w:=by rw[Kz];exact Try.sizeOf3 w
theorem Lp:prog.underlying 67=some (.slice (prog.elem 67)):=kR
theorem Ky:prog.elem 67=120:=kR
theorem KZ(w:World):(sizeOf (prog.elem 67)).run prog w=.ok 3 w:=by rw[Ky];exact Try.sizeOf120 w
theorem G8:(prog.info? 120).map (fun i=>(i.zero,i.size,i.bytes))=some (some (.agg #[.bool false,.int .i64 0,.int .i64 0]),3,24):=kR
theorem E7{w:World}{B:Nat}{t:TypeId}{k:Nat}{p:Option Addr}{n c:Nat}{xs:List Value}(h:w.ownsRow B t k (.slice p n c) n xs){m:Nat}(hm:m<=n):w.ownsRow B t k (.slice p m c) m (xs.take (m*k)):=by
 obtain⟨hl,h⟩:=h;have hle:m*k<=n*k:=Nat.mul_le_mul_right k hm;refine⟨by rw[List.length_take,hl];exact Nat.min_eq_left hle,?_⟩;rcases h with⟨hv,h0⟩|⟨g,cap,cur,hv,hB,hg,hc1,hc2,hsz,htk⟩
 ·left;subst h0;have:m=0:=oM;subst this;exact⟨hv,rfl⟩
 ·simp only[Value.slice.injEq]at hv;obtain⟨rfl,-,rfl⟩:=hv;refine .inr ⟨g,c,cur,rfl,hB,hg,oM,hc2,hsz,?_⟩;rw[←htk,List.take_take,Nat.min_eq_left hle]
structure WX(E G C n gi:Nat)(vs vo:Value)(w:World)(S:List Nat)(O:List Bk)(X:Nat->Bool):Prop where
 g:w.rowIs G 69 4 (Lr C gi n vs vo)
 i:w.rowIs gi 4 n (fun j=>.bool (X j))
 set:w.ownsRow E 3 1 vs S.length (AG S)
 opn:w.ownsRow E 120 3 vo O.length (Bb O.reverse)
 hG:E<=G
 hgi:E<=gi
 n1:gi≠G
 n2:vs.ownBlock≠some G
 n3:vs.ownBlock≠some gi
 n4:vo.ownBlock≠some G
 n5:vo.ownBlock≠some gi
 n6:∀b,vs.ownBlock=some b->vo.ownBlock≠some b
section
variable {E G C n gi : Nat} {vs vo : Value} {w w' : World} {S : List Nat} {O : List Bk} {X : Nat -> Bool} {s : Wk}
theorem WS.x(h:WS E G C n gi vs vo w s):WX E G C n gi vs vo w s.set s.opens (fun j=>decide (j∈s.set)):=⟨h.g,h.i,h.set,h.opn,h.hG,h.hgi,h.n1,h.n2,h.n3,h.n4,h.n5,h.n6⟩
theorem WX.st(h:WX E G C n gi vs vo w s.set s.opens X)(hx:∀j,j<n->X j=decide (j∈s.set)):WS E G C n gi vs vo w s:=
 ⟨h.g,h.i.congr fun j hj=>by rw[hx j hj],h.set,h.opn,h.hG,h.hgi,h.n1,h.n2,h.n3,h.n4,h.n5,h.n6⟩
theorem WX.below(h:WX E G C n gi vs vo w S O X)(k:Below w.heap.size w w'):WX E G C n gi vs vo w' S O X:=
 ⟨h.g.of_block (k.block _ h.g.lt),h.i.of_block (k.block _ h.i.lt),Ak h.set k,Ak h.opn k,h.hG,h.hgi,h.n1,h.n2,h.n3,h.n4,h.n5,h.n6⟩
theorem WX.c1(h:WX E G C n gi vs vo w S O X):w.cell? ⟨G,1,none⟩=some (.slice (some ⟨gi,0,none⟩) n n):=h.g.cell (i:=1) dE
theorem WX.c2(h:WX E G C n gi vs vo w S O X):w.cell? ⟨G,2,none⟩=some vs:=h.g.cell (i:=2) dE
theorem WX.lt(h:WX E G C n gi vs vo w S O X):E<=w.heap.size:=Nat.le_trans h.hG (Nat.le_of_lt h.g.lt)
theorem WX.opens{vo':Value}{O':List Bk}(h:WX E G C n gi vs vo w S O X)(ho:w.ownsRow E 120 3 vo' O'.length (Bb O'.reverse))(m4:vo'.ownBlock≠some G)(m5:vo'.ownBlock≠some gi)(m6:∀b,vs.ownBlock=some b->vo'.ownBlock≠some b):
 WX E G C n gi vs vo' (w.setCell ⟨G,3,none⟩ vo') S O' X:=by
 have nb:∀b,b≠G->(w.setCell ⟨G,3,none⟩ vo').heap[b]? =w.heap[b]? :=fun b hb=>Below.heap_setCell _ _ _ _ hb;refine⟨(h.g.set 3 vo').congr fun j hj=>?_,h.i.of_block (nb _ h.n1),A7 h.set fun b hb=>nb b fun e=>h.n2 (e▸hb),A7 ho fun b hb=>nb b fun e=>m4 (e▸hb),h.hG,h.hgi,h.n1,h.n2,h.n3,m4,m5,m6⟩;exact LF
theorem WX.sets{vs':Value}{S':List Nat}(h:WX E G C n gi vs vo w S O X)(hs:w.ownsRow E 3 1 vs' S'.length (AG S'))(m2:vs'.ownBlock≠some G)(m3:vs'.ownBlock≠some gi)(m6:∀b,vs'.ownBlock=some b->vo.ownBlock≠some b):
 WX E G C n gi vs' vo (w.setCell ⟨G,2,none⟩ vs') S' O X:=by
 have nb:∀b,b≠G->(w.setCell ⟨G,2,none⟩ vs').heap[b]? =w.heap[b]? :=fun b hb=>Below.heap_setCell _ _ _ _ hb;refine⟨(h.g.set 2 vs').congr fun j hj=>?_,h.i.of_block (nb _ h.n1),A7 hs fun b hb=>nb b fun e=>m2 (e▸hb),A7 h.opn fun b hb=>nb b fun e=>h.n4 (e▸hb),h.hG,h.hgi,h.n1,m2,m3,h.n4,h.n5,m6⟩;exact LF
theorem WX.put(h:WX E G C n gi vs vo w S O X)(x:Nat)(v:Bool):WX E G C n gi vs vo (w.setCell ⟨gi,x,none⟩ (.bool v)) S O (fun j=>if j=x then v else X j):=by
 have nb:∀b,b≠gi->(w.setCell ⟨gi,x,none⟩ (.bool v)).heap[b]? =w.heap[b]? :=fun b hb=>Below.heap_setCell _ _ _ _ hb;refine⟨h.g.of_block (nb _ (Ne.symm h.n1)),(h.i.set x (.bool v)).congr fun j hj=>?_,A7 h.set fun b hb=>nb b fun e=>h.n3 (e▸hb),A7 h.opn fun b hb=>nb b fun e=>h.n5 (e▸hb),h.hG,h.hgi,h.n1,h.n2,h.n3,h.n4,h.n5,h.n6⟩;show(if j=x then _ else _)=_;split<;>rfl
theorem WX.of{X':Nat->Bool}(h:WX E G C n gi vs vo w S O X)(e:∀j,j<n->X j=X' j):WX E G C n gi vs vo w S O X':=
 ⟨h.g,h.i.congr fun j hj=>by rw[e j hj],h.set,h.opn,h.hG,h.hgi,h.n1,h.n2,h.n3,h.n4,h.n5,h.n6⟩
theorem WX.grown{row:Option Nat}(h:WX E G C n gi vs vo w S O X)(hg:w.grownBy w' row)(hr:row=vo.ownBlock\/row=vs.ownBlock):
 w'.rowIs G 69 4 (Lr C gi n vs vo)/\w'.rowIs gi 4 n (fun j=>.bool (X j))/\(row=vo.ownBlock->w'.ownsRow E 3 1 vs S.length (AG S))/\(row=vs.ownBlock->w'.ownsRow E 120 3 vo O.length (Bb O.reverse)):=by
 have k1:some G≠row:=fun e=>by
  rcases hr with hr|hr
  ·rw[hr]at e;exact h.n4 e.symm
  ·rw[hr]at e;exact h.n2 e.symm
 have k2:some gi≠row:=fun e=>by
  rcases hr with hr|hr
  ·rw[hr]at e;exact h.n5 e.symm
  ·rw[hr]at e;exact h.n3 e.symm
 exact⟨h.g.of_block (hg.block _ h.g.lt k1),h.i.of_block (hg.block _ h.i.lt k2),fun hr=>A7 h.set fun b hb=>hg.block b (h.set.lt b hb).2 fun e=>h.n6 b hb (by rw[←hr];exact e.symm),fun hr=>A7 h.opn fun b hb=>hg.block b (h.opn.lt b hb).2 fun e=>h.n6 b (by rw[←hr];exact e.symm) hb⟩
end
structure LW(E G C n gi:Nat)(vs vo:Value)(w:World)(S:List Nat)(O:List Bk)(X:Nat->Bool)(H:Nat)(L:Bool)(A:Nat)(v:World):Prop where
 bel:Below E w v
 st:WX E G C n gi vs vo v S O X
 b0:v.cell? ⟨H,0,none⟩=some (.bool L)
 b2:v.cell? ⟨H,2,none⟩=some (.int .i64 (A:Int))
 hH:H≠G
 hI:H≠gi
 off:∀k,k<w.heap.size->k≠G->k≠gi->v.heap[k]? =w.heap[k]?
section
variable {E G C n gi : Nat} {vs vo : Value} {w v v' : World} {S : List Nat} {O : List Bk} {X : Nat -> Bool} {H : Nat} {L : Bool} {A : Nat}
theorem LW.below(h:LW E G C n gi vs vo w S O X H L A v)(k:Below v.heap.size v v'):LW E G C n gi vs vo w S O X H L A v':=
 ⟨h.bel.trans (k.mono h.st.lt),h.st.below k,kc k h.b0,kc k h.b2,h.hH,h.hI,fun j hj h1 h2=>(k.block j (Nat.lt_of_lt_of_le hj h.bel.size)).trans (h.off j hj h1 h2)⟩
theorem LW.put(h:LW E G C n gi vs vo w S O X H L A v)(x:Nat)(b:Bool):LW E G C n gi vs vo w S O (fun j=>if j=x then b else X j) H L A (v.setCell ⟨gi,x,none⟩ (.bool b)):=by
 have f:∀j,(v.setCell ⟨gi,x,none⟩ (.bool b)).cell? ⟨H,j,none⟩=v.cell? ⟨H,j,none⟩:=fun j=>World.cell?_of_block (Below.heap_setCell _ _ _ _ h.hI);exact⟨h.bel.setCell h.st.hgi _,h.st.put x b,(f 0).trans h.b0,(f 2).trans h.b2,h.hH,h.hI,fun j hj h1 h2=>(Below.heap_setCell _ _ _ _ h2).trans (h.off j hj h1 h2)⟩
theorem LW.of{X':Nat->Bool}(h:LW E G C n gi vs vo w S O X H L A v)(e:∀j,j<n->X j=X' j):LW E G C n gi vs vo w S O X' H L A v:=⟨h.bel,h.st.of e,h.b0,h.b2,h.hH,h.hI,h.off⟩
end
theorem JU{w:World}{B:Nat}{t:TypeId}{k:Nat}{p:Option Addr}{n c:Nat}{xs:List Value}(h:w.ownsRow B t k (.slice p n c) n xs):n<=c:=by
 rcases h.2 with⟨hv,h0⟩|⟨g,cap,cur,hv,hB,hg,hc1,hc2,hsz,htk⟩
 ·omega
 ·simp only[Value.slice.injEq]at hv;omega
theorem Je{w:World}{B:Nat}{t:TypeId}{p:Option Addr}{c:Nat}{S:List Nat}(h:w.ownsRow B t 1 (.slice p S.length c) S.length (AG S)){A j:Nat}(hj:A+j<S.length):
 ∃g,p=some ⟨g,0,none⟩/\Du p c A 1=some ⟨g,A,none⟩/\w.cell? ⟨g,A+j,none⟩=some (.int .i64 (S[A+j]:Int)):=by
 obtain⟨g,cap,hv,_,_,hc1,_,hcl⟩:=Bj h oM;simp only[Value.slice.injEq]at hv;obtain⟨rfl,-,rfl⟩:=hv;refine⟨g,rfl,?_,hcl _ _ (by simp[AG,List.getElem?_eq_getElem hj])⟩;unfold Du;rw[if_neg oM];by_cases h0:A=0
 ·subst h0;simp[Addr.add]
 ·simp[Addr.add,h0]
theorem C8(p:Option Addr)(a b c:Nat):(Value.slice p a c).ownBlock=(Value.slice p b c).ownBlock:=by cases p<;>rfl
def C7(S:List Nat)(A q:Nat)(j:Nat):Bool:=decide (j∈S)&& !decide (j∈(S.drop A).take q)
theorem EA(S:List Nat)(A j:Nat):C7 S A 0 j=decide (j∈S):=by simp[C7]
theorem Hj{S:List Nat}{A q:Nat}(h:A+q<S.length)(j:Nat):(if j=S[A+q]then false else C7 S A q j)=C7 S A (q+1) j:=by
 have e:(S.drop A).take (q+1)=(S.drop A).take q++[S[A+q]]:=by
  rw[List.take_succ_eq_append_getElem (by rw[List.length_drop];omega)];simp
 unfold C7;rw[e];by_cases hj:j=S[A+q]
 ·rw[if_pos hj,hj];simp
 ·rw[if_neg hj];simp[hj]
theorem Im{S:List Nat}{A:Nat}(hd:S.Nodup)(j:Nat):C7 S A (S.length-A) j=decide (j∈S.take A):=by
 have e:(S.drop A).take (S.length-A)=S.drop A:=List.take_of_length_le sM;unfold C7;rw[e];have hs:S=S.take A++S.drop A:=(List.take_append_drop A S).symm;have hd':=hd;rw[hs,List.nodup_append]at hd';by_cases h1:j∈S.take A
 ·have h2:j∉S.drop A:=fun h2=>hd'.2.2 j h1 j h2 rfl;have h3:j∈S:=List.mem_of_mem_take h1;simp[h1,h2,h3]
 ·by_cases h2:j∈S.drop A
  ·simp[h1,h2]
  ·have h3:j∉S:=fun h3=>by rw[hs]at h3;exact(List.mem_append.1 h3).elim h1 h2
   simp[h1,h3]
theorem He(E G C n gi:Nat)(vs vo:Value)(s:Wk)(w:World)(h:WS E G C n gi vs vo w s)(ok:CZ n s)(hn:n<=16384)(hop:s.opens≠[]):
 Calls prog 64 #[.pointer (some ⟨G,0,none⟩)] w fun e w'=>e=.returned (.tuple #[])/\Below E w w'/\(∀k,k<w.heap.size->k≠G->k≠gi->w'.heap[k]? =w.heap[k]?)/\∃vs' vo',WS E G C n gi vs' vo' w' (BG s):=by
 obtain⟨S,O⟩:=s;cases O with
 |nil=>exact absurd rfl hop
 |cons bk r=>
  clear hop;obtain⟨L,P,A⟩:=bk;have hlen:=ok.len;obtain⟨hnd,hlt,⟨hA,hAr⟩,hne⟩:=ok;simp only at hnd hlt hA hAr hne hlen;have hx:=h.x;have hG:=h.g.lt;have hgi:=h.i.lt;have hE:=h.lt;obtain⟨g,cap,rfl,hE2,hg,hc1,hc2,hcl⟩:=Bj h.opn sM;obtain⟨pS,cS,rfl⟩:=AU h.set;have hcs:=JU h.set;simp only at hcs;have hl:r.reverse.length=r.length:=List.length_reverse;simp only[List.reverse_cons]at hcl;have x0:=hcl (r.length*3) (.bool L) N5;have x1:=hcl (r.length*3+1) (.int .i64 P) N4;have x2:=hcl (r.length*3+2) (.int .i64 A) MZ;have c3:=h.c3;have HX:Hid (WX E G C n gi (.slice pS S.length cS) (.slice (some ⟨g,0,none⟩) (r.length+1) cap) w S (⟨L,P,A⟩::r) (fun j=>decide (j∈S))):=hx;simp only[List.length_cons]at c3 hne hc1;have HL1:Hid (LW E G C n gi (.slice pS S.length cS) (.slice (some ⟨g,0,none⟩) r.length cap) w S r (C7 S A 0) w.heap.size L A ((w.setCell ⟨G,3,none⟩ (.slice (some ⟨g,0,none⟩) r.length cap)).alloc (.cells #[.bool L,.int .i64 P,.int .i64 (A:Int)] 120))):=by
   have ho:=E7 (m:=r.length) hx.opn sM;have he:(Bb ((⟨L,P,A⟩::r).reverse)).take (r.length*3)=Bb r.reverse:=by
    rw[List.reverse_cons,Cr,List.take_append_of_le_length (by rw[BM,hl];exact Nat.le_refl _),List.take_of_length_le (by rw[BM,hl];exact Nat.le_refl _)]
   rw[he]at ho;have hs:(w.setCell ⟨G,3,none⟩ (.slice (some ⟨g,0,none⟩) r.length cap)).heap.size=w.heap.size:=sM;have q:=hx.opens ho hx.n4 hx.n5 hx.n6;obtain⟨V,hV⟩:∃V,w.setCell ⟨G,3,none⟩ (.slice (some ⟨g,0,none⟩) r.length cap)=V:=⟨_,rfl⟩
   have hbV:Below E w V:=by rw[←hV];exact(Below.refl E w).setCell hx.hG _
   have hoV:∀k,k≠G->V.heap[k]? =w.heap[k]? :=fun k hk=>by rw[←hV];exact Below.heap_setCell _ _ _ _ hk
   rw[hV]at hs q ⊢;exact⟨hbV.alloc oM _,(q.below (A0 V _)).of fun j _=>(EA S A j).symm,by rw[←hs];simp[go_sem],by rw[←hs];simp[go_sem],oM,oM,fun k hk h1 _=>(Below.heap_alloc _ _ _ oM).trans (hoV k h1)⟩
  have HOW:Hid (∀v,WX E G C n gi (.slice pS S.length cS) (.slice (some ⟨g,0,none⟩) r.length cap) v S r (C7 S A (S.length-A))->WS E G C n gi (.slice pS A cS) (.slice (some ⟨g,0,none⟩) r.length cap) (v.setCell ⟨G,2,none⟩ (.slice pS A cS)) ⟨S.take A,r⟩):=fun v hv=>by
   have ho:=E7 (m:=A) hv.set hA;rw[Nat.mul_one,EG]at ho;have hlA:(S.take A).length=A:=by rw[List.length_take];omega
   have ho':v.ownsRow E 3 1 (.slice pS A cS) (S.take A).length (AG (S.take A)):=by rw[hlA];exact ho
   have q:=hv.sets (vs':=.slice pS A cS) (S':=S.take A) ho' (by rw[C8 pS A S.length cS];exact hv.n2) (by rw[C8 pS A S.length cS];exact hv.n3) (by rw[C8 pS A S.length cS];exact hv.n6);exact WX.st (s:=⟨S.take A,r⟩) q fun j _=>Im hnd j
  have HFR:Hid (∀v:World,v.ownsRow E 3 1 (.slice pS S.length cS) S.length (AG S)->∀j,A+j<S.length->∃ (gs x:Nat),Du pS cS A 1=some ⟨gs,A,none⟩/\v.cell? ⟨gs,A+j,none⟩=some (.int .i64 (x:Int))/\x<n/\∀i,(if i=x then false else C7 S A j i)=C7 S A (j+1) i):=fun v hv j hj=>by
   obtain⟨gs,_,h2,h3⟩:=Je hv hj;exact⟨gs,S[A+j],h2,h3,hlt _ (List.getElem_mem hj),fun i=>Hj hj i⟩
  have HLT:Hid (WX E G C n gi (.slice pS S.length cS) (.slice (some ⟨g,0,none⟩) r.length cap) w S r (C7 S A 0)->True):=fun _=>trivial;have HL3:Hid (∀v,WX E G C n gi (.slice pS S.length cS) (.slice (some ⟨g,0,none⟩) r.length cap) v S r (C7 S A 0)->WS E G C n gi (.slice pS S.length cS) (.slice (some ⟨g,0,none⟩) r.length cap) v ⟨S,r⟩):=fun v hv=>WX.st (s:=⟨S,r⟩) hv fun j _=>EA S A j;have s1:=fun w=>EI Lp KZ (some ⟨g,0,none⟩) (r.length+1) cap r.length oM w;have s2:=fun w=>FI Km Jf pS S.length cS A hA w;have s3:=fun w=>EI Km Jf pS S.length cS A oM w;obtain⟨m,hm⟩:∃m,r.length=m:=⟨_,rfl⟩
  obtain⟨K,hK⟩:∃K,S.length=K:=⟨_,rfl⟩
  obtain⟨pF,hpF⟩:∃p,Du pS cS A 1=p:=⟨_,rfl⟩
  simp only[BG];rw[hm]at x0 x1 x2 c3 hne hc1 s1 HX HL1 HOW HL3;rw[hK]at s2 s3 HL1 HOW HL3 hA hlen hcs HX;simp only[hpF]at s2;simp only[hpF,hK]at HFR;have HD:Hid (K-A<=16384):=by show _<=_;omega
  obtain⟨N,hN⟩:∃N,m+1=N:=⟨_,rfl⟩
  rw[hN]at c3 hne hc1 s1 HX;obtain⟨D,hD⟩:∃D,K-A=D:=⟨_,rfl⟩
  rw[hD]at s2 HOW HD;have HDD:Hid (K-A=D):=hD;have HKK:Hid (S.length=K):=hK;have hw:IntKind.i64.wrap ((N:Int)-1)=(m:Int):=by rw[IntKind.wrap_i64];omega
  have i1:(0:Int)<=(m:Int):=oM;have i2:(m:Int)<(N:Int):=oM;have ng:g≠w.heap.size:=oM;have nG:G≠w.heap.size:=oM;have fz:=h.g.frozen 3;have HB0:Hid (D<=16384):=HD;have hDb:D<=16384:=HD.out;clear hcl hl hm hK hpF hN hD h hx hAr hlt hnd HLT HD;go_enter func64,ntmps64;go_upto_region 2 with fail;go_cut [3] (fun bv wx=>bv=.pointer (some ⟨w.heap.size,0,none⟩)/\LW E G C n gi (.slice pS K cS) (.slice (some ⟨g,0,none⟩) m cap) w S r (C7 S A 0) w.heap.size L A wx)
  case first=>
   go_wp2;go_meet;exact⟨rfl,HL1.out⟩
  case rest=>
   obtain⟨rfl,lw⟩:=hcut;have HLW:Hid (LW E G C n gi (.slice pS K cS) (.slice (some ⟨g,0,none⟩) m cap) w S r (C7 S A 0) w.heap.size L A wc):=lw;have b0:=lw.b0;have b2:=lw.b2;have d2:=lw.st.c2;clear lw HL1 HX x0 x1 x2 c3 fz;cases L
   ·go_wp2;refine rG (fun v=>v.cell? ⟨G,2,none⟩=some (.slice pS K cS)/\v.cell? ⟨w.heap.size,2,none⟩=some (.int .i64 (A:Int))) fun hHeld=>?_;refine Tf 0 1 2 3 4 5 ?_;refine Tc 6 7 8 ?_;refine wpAnyH_done kR ?_ _;go_wp2
    go_loopw [38] (fun iv wr=>∃j:Nat,j<=D/\iv=.int .i64 j/\LW E G C n gi (.slice pS K cS) (.slice (some ⟨g,0,none⟩) m cap) w S r (C7 S A j) w.heap.size false A wr) (fun iv _=>D-(intOf iv).toNat)
    case atStart=>exact⟨0,Nat.zero_le _,rfl,HLW.out.below (Ah _)⟩
    case round=>
     clear HLW b0 b2 d2;obtain⟨j,hj,rfl,lw⟩:=hrel;have HLW:Hid (LW E G C n gi (.slice pS K cS) (.slice (some ⟨g,0,none⟩) m cap) w S r (C7 S A j) w.heap.size false A wr):=lw;by_cases hlt:j<D
     ·obtain⟨gs,x,rfl,xj,hxn,hsv⟩:=HFR.out wr (by have:=lw.st.set;rw[HKK.out]at this;exact this) j (by have:=HDD.out;omega);have HSV:Hid (∀i,(if i=x then false else C7 S A j i)=C7 S A (j+1) i):=hsv;have d1:=lw.st.c1;have y1:=lw.st.i.cell hxn;have y2:=lw.st.i.frozen x;have i3:(0:Int)<=(j:Int):=oM;have i4:(j:Int)<(D:Int):=oM;have i5:(0:Int)<=(x:Int):=oM;have i6:(x:Int)<(n:Int):=oM;clear lw hsv;go_wp2;go_roundw
      case rel=>exact⟨j+1,oM,gN,(HLW.out.put x false).of fun i _=>HSV.out i⟩
      case measure=>simp[intOf];omega
     ·have:j=D:=oM;subst this;have d2:=lw.st.c2;have b2:=lw.b2;have d3:=lw.st.g.frozen 2;have hGr:G≠w.heap.size:=oM;clear lw;go_wp2;refine rG (fun v=>v.cell? ⟨w.heap.size,2,none⟩=some (.int .i64 (A:Int))) fun hHeld=>?_;refine Tf 0 1 2 3 5 6 ?_;clear hHeld;refine Aw 4 fun K hK=>?_;go_simp;refine As hK fun hHeld=>?_;clear hK K;refine Tc 7 8 9 ?_;clear hHeld;refine Aw 10 fun K hK=>?_;go_simp;refine As hK fun hHeld=>?_;clear hK K;refine wpAnyH_done kR ?_ _;go_wp2;first|go_end0|(simp only[Exit.inBlock,Exit.then];refine bodyPost_ret (results_none rfl _ _ _) rfl ?_)|refine bodyPost_ret (results_none rfl _ _ _) rfl ?_
      exact⟨rfl,(HLW.out.bel.drew).setCell HLW.out.st.hG _,fun k hk h1 h2=>(Below.heap_setCell _ _ _ _ h1).trans (HLW.out.off k hk h1 h2),_,_,HOW.out _ (HLW.out.below (Ah _)).st⟩
   ·go_wp2;first|go_end0|(simp only[Exit.inBlock,Exit.then];refine bodyPost_ret (results_none rfl _ _ _) rfl ?_)|refine bodyPost_ret (results_none rfl _ _ _) rfl ?_
    exact⟨rfl,HLW.out.bel,HLW.out.off,_,_,HL3.out _ HLW.out.st⟩
theorem CD{P:Program}{w w':World}{ops:Array Oper}{o:Oper}{a:Act}{K:Act->World->Prop}{Q:Exit->Act->World->Prop}{E:Prop}(hgd:o.guard=none)(s x:Operand)(t:TypeId)
 (ho:o.op=.call {callee:=.builtin .append,args:=#[s,x],argTypes:=#[t,t]}) (v v2 v':Value) (hs:a.eval s=v) (hx:a.eval x=v2) (hr:(Builtin.append_ #[t,t] o.type #[v,v2]).run P w=.ok v' w') (h:K (a.put o.dst v') w'):
 if Region.wanted o (yielded ops a.tmps)=true then Oper.wp P o a w K Q else E:=by
 have hw:Region.wanted o (yielded ops a.tmps)=true:=by simp[Region.wanted,hgd]
 rw[if_pos hw];unfold Oper.wp execOp;simp only[ho,resolve,invoke,builtin,Sem.run_bind,Sem.run_pure,Result.andThen_ok,List.map_toArray,List.map_cons,List.map_nil,hs,hx,hr];exact h
section
variable {E G C n gi : Nat} {vs vo : Value} {V : World} {S : List Nat} {O : List Bk} {X : Nat -> Bool}
theorem Jx(h:WX E G C n gi vs vo V S O X)(hS:S.length<=16384)(x:Nat):
 ∃g cap w3,(Builtin.append_ #[61,61] 61 #[vs,.slice (some ⟨V.heap.size,0,none⟩) 1 1]).run prog (V.drew.alloc (.cells #[.int .i64 (x:Int)] 3))=.ok (.slice (some ⟨g,0,none⟩) (S.length+1) cap) w3/\Below E V w3/\w3.cell? ⟨G,2,none⟩=some vs/\w3.frozen? ⟨G,2,none⟩=false/\
  WX E G C n gi (.slice (some ⟨g,0,none⟩) (S.length+1) cap) vo (w3.setCell ⟨G,2,none⟩ (.slice (some ⟨g,0,none⟩) (S.length+1) cap)) (S++[x]) O X:=by
 obtain⟨i0,hi0,hz0,hz1,hz2⟩:=info_parts Bu;have hb0:Below V.heap.size V (V.drew.alloc (.cells #[.int .i64 (x:Int)] 3)):=bel (Ah V) (A0 _ _);have h0:=h.below hb0;have hlt0:=h.lt;obtain⟨g,cap,w3,hr,hown,hgrow,hat,hlt⟩:=run_append_lies (P:=prog) (V.drew.alloc (.cells #[.int .i64 (x:Int)] 3)) 61 61 E 3 i0 _ 1 8 underlying61 hi0 hz0 hz1 hz2 rfl dE vs S.length (AG S) h0.set ⟨V.heap.size,0,none⟩ 1 1 [.int .i64 (x:Int)] rfl
  (World.news_of_block (cs:=#[.int .i64 (x:Int)]) (t:=3) (fr:=(0,0)) (heap_alloc_new V.drew _)) Kt dE mL oM sO _ rfl
 obtain⟨k1,k2,-,k4⟩:=h0.grown hgrow (.inr rfl);have hG:=h.g.lt;have hgi:=h.i.lt;have hsz:(V.drew.alloc (.cells #[.int .i64 (x:Int)] 3)).heap.size=V.heap.size+1:=sM;have m2:g≠G:=by
  rcases hat with hat|hat
  ·exact fun e=>h.n2 (e▸hat)
  ·omega
 have m3:g≠gi:=by
  rcases hat with hat|hat
  ·exact fun e=>h.n3 (e▸hat)
  ·omega
 have m6:∀b,vo.ownBlock=some b->g≠b:=fun b hb e=>by
  rcases hat with hat|hat
  ·exact h.n6 g hat (e▸hb)
  ·have:=(h.opn.lt b hb).2;omega
 have hV3:WX E G C n gi vs vo w3 S O X->True:=fun _=>trivial;have hn:(S++[x]).length=S.length+1:=sM;have o4:=k4 rfl;refine⟨g,cap,w3,hr,?_,k1.cell (i:=2) dE,k1.frozen 2,?_⟩
 ·exact(hb0.mono hlt0).grown hgrow oM (fun q e=>(h0.set.lt q e).1)
 ·have nb:∀b,b≠G->(w3.setCell ⟨G,2,none⟩ (.slice (some ⟨g,0,none⟩) (S.length+1) cap)).heap[b]? =w3.heap[b]? :=fun b hb=>Below.heap_setCell _ _ _ _ hb;refine⟨(k1.set 2 _).congr fun j hj=>?_,k2.of_block (nb _ h.n1),?_,A7 o4 fun b hb=>nb b fun e=>h.n4 (e▸hb),h.hG,h.hgi,h.n1,fun e=>m2 (Option.some.inj e),fun e=>m3 (Option.some.inj e),h.n4,h.n5,fun b e hb=>m6 b hb (Option.some.inj e)⟩
  ·exact LF
  ·rw[hn,Hu];exact A7 hown fun b hb=>nb b fun e=>m2 (by rw[←e];exact Option.some.inj hb)
theorem F7(h:WX E G C n gi vs vo V S O X)(hO:O.length<=64)(L:Bool)(P:Int)(A:Nat):
 ∃g cap w3,(Builtin.append_ #[67,67] 67 #[vo,.slice (some ⟨V.heap.size,0,none⟩) 1 1]).run prog (V.drew.alloc (.cells #[.bool L,.int .i64 P,.int .i64 (A:Int)] 120))=.ok (.slice (some ⟨g,0,none⟩) (O.length+1) cap) w3/\Below E V w3/\w3.cell? ⟨G,3,none⟩=some vo/\w3.frozen? ⟨G,3,none⟩=false/\w3.cell? ⟨G,2,none⟩=some vs/\
  (∀a,a.block<V.heap.size->vo.ownBlock≠some a.block->w3.cell? a=V.cell? a)/\
  WX E G C n gi vs (.slice (some ⟨g,0,none⟩) (O.length+1) cap) (w3.setCell ⟨G,3,none⟩ (.slice (some ⟨g,0,none⟩) (O.length+1) cap)) S (⟨L,P,A⟩::O) X:=by
 obtain⟨i0,hi0,hz0,hz1,hz2⟩:=info_parts G8;have hb0:Below V.heap.size V (V.drew.alloc (.cells #[.bool L,.int .i64 P,.int .i64 (A:Int)] 120)):=bel (Ah V) (A0 _ _);have h0:=h.below hb0;have hlt0:=h.lt;obtain⟨g,cap,w3,hr,hown,hgrow,hat,hlt⟩:=run_append_lies (P:=prog) (V.drew.alloc (.cells #[.bool L,.int .i64 P,.int .i64 (A:Int)] 120)) 67 67 E 120 i0 _ 3 24 underlying67 hi0 hz0 hz1 hz2 rfl dE vo O.length (Bb O.reverse) h0.opn ⟨V.heap.size,0,none⟩ 1 1 (Kw ⟨L,P,A⟩) rfl
  (World.news_of_block (cs:=#[.bool L,.int .i64 P,.int .i64 (A:Int)]) (t:=120) (fr:=(0,0)) (heap_alloc_new V.drew _)) (by simp[Kw,Value.oneCell']) dE mL oM sO _ rfl
 obtain⟨k1,k2,k3,-⟩:=h0.grown hgrow (.inl rfl);have hG:=h.g.lt;have hgi:=h.i.lt;have hsz:(V.drew.alloc (.cells #[.bool L,.int .i64 P,.int .i64 (A:Int)] 120)).heap.size=V.heap.size+1:=sM;have m2:g≠G:=by
  rcases hat with hat|hat
  ·exact fun e=>h.n4 (e▸hat)
  ·omega
 have m3:g≠gi:=by
  rcases hat with hat|hat
  ·exact fun e=>h.n5 (e▸hat)
  ·omega
 have m6:∀b,vs.ownBlock=some b->g≠b:=fun b hb e=>by
  rcases hat with hat|hat
  ·exact h.n6 b hb (e▸hat)
  ·have:=(h.set.lt b hb).2;omega
 have o3:=k3 rfl;refine⟨g,cap,w3,hr,?_,k1.cell (i:=3) dE,k1.frozen 3,k1.cell (i:=2) dE,fun a ha hb=>?_,?_⟩
 ·exact(hb0.mono hlt0).grown hgrow oM (fun q e=>(h0.opn.lt q e).1)
 ·rw[World.cell?_of_block (hgrow.block a.block oM (Ne.symm hb)),hb0.cell ha]
 ·have nb:∀b,b≠G->(w3.setCell ⟨G,3,none⟩ (.slice (some ⟨g,0,none⟩) (O.length+1) cap)).heap[b]? =w3.heap[b]? :=fun b hb=>Below.heap_setCell _ _ _ _ hb;refine⟨(k1.set 3 _).congr fun j hj=>?_,k2.of_block (nb _ h.n1),A7 o3 fun b hb=>nb b fun e=>h.n2 (e▸hb),?_,h.hG,h.hgi,h.n1,h.n2,h.n3,fun e=>m2 (Option.some.inj e),fun e=>m3 (Option.some.inj e),fun b hb e=>m6 b hb (Option.some.inj e)⟩
  ·exact LF
  ·rw[List.reverse_cons,Cr];exact A7 hown fun b hb=>nb b fun e=>m2 (by rw[←e];exact Option.some.inj hb)
end
theorem JY(w:World):Calls prog 41 #[.int .i64 1] w fun e w'=>e=.returned (.tuple #[BD (A4 1),.bool true])/\Below w.heap.size w w':=by
 exact Ch
theorem JZ(w:World):Calls prog 41 #[.int .i64 2] w fun e w'=>e=.returned (.tuple #[BD (A4 2),.bool true])/\Below w.heap.size w w':=by
 exact Ch
theorem K6(w:World):Calls prog 41 #[.int .i64 3] w fun e w'=>e=.returned (.tuple #[BD (A4 3),.bool true])/\Below w.heap.size w w':=by
 exact Ch
theorem K7(w:World):Calls prog 41 #[.int .i64 4] w fun e w'=>e=.returned (.tuple #[BD (A4 4),.bool true])/\Below w.heap.size w w':=by
 exact Ch
theorem K8(w:World):Calls prog 41 #[.int .i64 5] w fun e w'=>e=.returned (.tuple #[BD (A4 5),.bool true])/\Below w.heap.size w w':=by
 exact Ch
theorem K9(w:World):Calls prog 41 #[.int .i64 6] w fun e w'=>e=.returned (.tuple #[BD (A4 6),.bool true])/\Below w.heap.size w w':=by
 exact Ch
theorem Ka(w:World):Calls prog 41 #[.int .i64 7] w fun e w'=>e=.returned (.tuple #[BD (A4 7),.bool true])/\Below w.heap.size w w':=by
 exact Ch
theorem Kb(w:World):Calls prog 41 #[.int .i64 8] w fun e w'=>e=.returned (.tuple #[BD (A4 8),.bool true])/\Below w.heap.size w w':=by
 exact Ch
theorem Kc(w:World):Calls prog 41 #[.int .i64 9] w fun e w'=>e=.returned (.tuple #[BD (A4 9),.bool true])/\Below w.heap.size w w':=by
 exact Ch
theorem IE(w:World):Calls prog 41 #[.int .i64 10] w fun e w'=>e=.returned (.tuple #[BD (A4 10),.bool true])/\Below w.heap.size w w':=by
 exact Ch
theorem IF(w:World):Calls prog 41 #[.int .i64 11] w fun e w'=>e=.returned (.tuple #[BD (A4 11),.bool true])/\Below w.heap.size w w':=by
 exact Ch
theorem IG(w:World):Calls prog 41 #[.int .i64 12] w fun e w'=>e=.returned (.tuple #[BD (A4 12),.bool true])/\Below w.heap.size w w':=by
 exact Ch
theorem IH(w:World):Calls prog 41 #[.int .i64 13] w fun e w'=>e=.returned (.tuple #[BD (A4 13),.bool true])/\Below w.heap.size w w':=by
 exact Ch
theorem II(w:World):Calls prog 41 #[.int .i64 14] w fun e w'=>e=.returned (.tuple #[BD (A4 14),.bool true])/\Below w.heap.size w w':=by
 exact Ch
theorem IJ(w:World):Calls prog 41 #[.int .i64 15] w fun e w'=>e=.returned (.tuple #[BD (A4 15),.bool true])/\Below w.heap.size w w':=by
 exact Ch
theorem IK(w:World):Calls prog 41 #[.int .i64 16] w fun e w'=>e=.returned (.tuple #[BD (A4 16),.bool true])/\Below w.heap.size w w':=by
 exact Ch
theorem IL(w:World):Calls prog 41 #[.int .i64 17] w fun e w'=>e=.returned (.tuple #[BD (A4 17),.bool true])/\Below w.heap.size w w':=by
 exact Ch
theorem IM(w:World):Calls prog 41 #[.int .i64 18] w fun e w'=>e=.returned (.tuple #[BD (A4 18),.bool true])/\Below w.heap.size w w':=by
 exact Ch
theorem IN(w:World):Calls prog 41 #[.int .i64 19] w fun e w'=>e=.returned (.tuple #[BD (A4 19),.bool true])/\Below w.heap.size w w':=by
 exact Ch
theorem IP(w:World):Calls prog 41 #[.int .i64 20] w fun e w'=>e=.returned (.tuple #[BD (A4 20),.bool true])/\Below w.heap.size w w':=by
 exact Ch
theorem IQ(w:World):Calls prog 41 #[.int .i64 21] w fun e w'=>e=.returned (.tuple #[BD (A4 21),.bool true])/\Below w.heap.size w w':=by
 exact Ch
theorem IR(w:World):Calls prog 41 #[.int .i64 22] w fun e w'=>e=.returned (.tuple #[BD (A4 22),.bool true])/\Below w.heap.size w w':=by
 exact Ch
theorem IS(w:World):Calls prog 41 #[.int .i64 23] w fun e w'=>e=.returned (.tuple #[BD (A4 23),.bool true])/\Below w.heap.size w w':=by
 exact Ch
theorem IT(w:World):Calls prog 41 #[.int .i64 24] w fun e w'=>e=.returned (.tuple #[BD (A4 24),.bool true])/\Below w.heap.size w w':=by
 exact Ch
theorem IU(w:World):Calls prog 41 #[.int .i64 25] w fun e w'=>e=.returned (.tuple #[BD (A4 25),.bool true])/\Below w.heap.size w w':=by
 exact Ch
theorem IV(w:World):Calls prog 41 #[.int .i64 26] w fun e w'=>e=.returned (.tuple #[BD (A4 26),.bool true])/\Below w.heap.size w w':=by
 exact Ch
theorem IW(w:World):Calls prog 41 #[.int .i64 27] w fun e w'=>e=.returned (.tuple #[BD (A4 27),.bool true])/\Below w.heap.size w w':=by
 exact Ch
theorem IX(w:World):Calls prog 41 #[.int .i64 28] w fun e w'=>e=.returned (.tuple #[BD (A4 28),.bool true])/\Below w.heap.size w w':=by
 exact Ch
theorem IY(w:World):Calls prog 41 #[.int .i64 29] w fun e w'=>e=.returned (.tuple #[BD (A4 29),.bool true])/\Below w.heap.size w w':=by
 exact Ch
theorem IZ(w:World):Calls prog 41 #[.int .i64 30] w fun e w'=>e=.returned (.tuple #[BD (A4 30),.bool true])/\Below w.heap.size w w':=by
 exact Ch
theorem J0(w:World):Calls prog 41 #[.int .i64 31] w fun e w'=>e=.returned (.tuple #[BD (A4 31),.bool true])/\Below w.heap.size w w':=by
 exact Ch
theorem J1(w:World):Calls prog 41 #[.int .i64 32] w fun e w'=>e=.returned (.tuple #[BD (A4 32),.bool true])/\Below w.heap.size w w':=by
 exact Ch
theorem J2(w:World):Calls prog 41 #[.int .i64 33] w fun e w'=>e=.returned (.tuple #[BD (A4 33),.bool true])/\Below w.heap.size w w':=by
 exact Ch
theorem J3(w:World):Calls prog 41 #[.int .i64 34] w fun e w'=>e=.returned (.tuple #[BD (A4 34),.bool true])/\Below w.heap.size w w':=by
 exact Ch
theorem J4(w:World):Calls prog 41 #[.int .i64 35] w fun e w'=>e=.returned (.tuple #[BD (A4 35),.bool true])/\Below w.heap.size w w':=by
 exact Ch
theorem J5(w:World):Calls prog 41 #[.int .i64 36] w fun e w'=>e=.returned (.tuple #[BD (A4 36),.bool true])/\Below w.heap.size w w':=by
 exact Ch
theorem J6(w:World):Calls prog 41 #[.int .i64 37] w fun e w'=>e=.returned (.tuple #[BD (A4 37),.bool true])/\Below w.heap.size w w':=by
 exact Ch
structure PS(E G C n gi H:Nat)(L0:Int)(w:World)(t:Wk)(vs vo:Value)(v:World):Prop where
 bel:Below E w v
 st:WS E G C n gi vs vo v t
 box:v.cell? ⟨H,0,none⟩=some (.int .i64 L0)
 n1:H≠G
 n2:H≠gi
theorem Iq(E G C n gi:Nat)(vs vo:Value)(s:Wk)(b o:Nat)(i:Ab)(r:Rw)(w:World)(h:WS E G C n gi vs vo w s)(ok:CZ n s)(hn:n<=16384)(hi:Ae w b o (AS i))(hbE:b<E)
 (hm:i.op=34\/i.op=36->s.opens.length<64) (he:i.op=35\/i.op=37->s.opens≠[]) (hd:r.d≠0->0<=i.d/\i.d<(n:Int)):
 Calls prog 45 #[.pointer (some ⟨G,0,none⟩),.pointer (some ⟨b,o,none⟩),BD r] w fun e w'=>e=.returned (.tuple #[])/\Below E w w'/\∃vs' vo',WS E G C n gi vs' vo' w' (DE s i r):=by
 have e0:=hi.at 0 rfl;have e1:=hi.at 1 rfl;have e5:=hi.at 5 rfl;rw[Nat.add_zero]at e0;have hok:CZ n (C1 s i):=ok.turn hm;unfold DE;have htu:C1 s i=if i.op=34\/i.op=36 then⟨s.set,⟨i.op==36,i.n,s.set.length⟩::s.opens⟩else if i.op=35\/i.op=37 then BG s else s:=rfl;obtain⟨T,hT⟩:∃T,C1 s i=T:=⟨_,rfl⟩
 rw[hT]at hok htu ⊢;have HT:Hid (T=if i.op=34\/i.op=36 then⟨s.set,⟨i.op==36,i.n,s.set.length⟩::s.opens⟩else if i.op=35\/i.op=37 then BG s else s):=htu;clear htu hT;have had:Cp T i r=if r.d≠0/\i.d.toNat∉T.set then⟨T.set++[i.d.toNat],T.opens⟩else T:=rfl;obtain⟨R,hR⟩:∃R,Cp T i r=R:=⟨_,rfl⟩
 rw[hR]at had ⊢;have HR:Hid (R=if r.d≠0/\i.d.toNat∉T.set then⟨T.set++[i.d.toNat],T.opens⟩else T):=had;clear had hR hi;have HOK:Hid (CZ n T):=hok;obtain⟨io,D,A,B,F,N,bt⟩:=i;obtain⟨L0,L1,L2,L3,L4⟩:=r;simp only at e0 e1 e5 hm he hd HT HR hok;unfold BD;have HD:Hid (L0≠0->0<=D/\D<(n:Int)):=hd;have HS:Hid (WS E G C n gi vs vo w s):=h;have HS1:Hid (WS E G C n gi vs vo (w.alloc (.cells #[.int .i64 L0,.int .i64 L1,.int .i64 L2,.int .i64 L3,.int .i64 L4] 97)) s):=h.below (A0 _ _);have hE:=h.lt;have hG:=h.g.lt;have hgi:=h.i.lt;have nG:G≠w.heap.size:=oM;have ngi:gi≠w.heap.size:=oM;have nbG:b≠G:=by have:=h.hG;omega
 have nbi:b≠gi:=by have:=h.hgi;omega
 have hbw:b≠w.heap.size:=oM;have nGb:G≠b:=Ne.symm nbG;have nib:gi≠b:=Ne.symm nbi;have niG:gi≠G:=h.n1;have nGi:G≠gi:=Ne.symm h.n1;have HB1:Hid (Below E w (w.alloc (.cells #[.int .i64 L0,.int .i64 L1,.int .i64 L2,.int .i64 L3,.int .i64 L4] 97))):=(Below.refl E w).alloc hE _;have HE:Hid (∀v,Below E w v->v.cell? ⟨b,o,none⟩=some (.int .i64 io)/\v.cell? ⟨b,o+1,none⟩=some (.int .i64 D)/\v.cell? ⟨b,o+5,none⟩=some (.int .i64 N)):=fun v hv=>⟨(hv.cell hbE).trans e0,(hv.cell hbE).trans e1,(hv.cell hbE).trans e5⟩
 have HVB:Hid ((w.alloc (.cells #[.int .i64 L0,.int .i64 L1,.int .i64 L2,.int .i64 L3,.int .i64 L4] 97)).cell? ⟨w.heap.size,0,none⟩=some (.int .i64 L0)):=by show _=_;simp[go_sem]
 obtain⟨z0,z1,z5⟩:=HE.out _ HB1.out;have HOS:Hid (CZ n s):=ok;have HM:Hid (io=34\/io=36->s.opens.length<64):=hm;have HQ:Hid (io=35\/io=37->s.opens≠[]):=he;clear hd h hok hm he ok e0 e1 e5;go_enter func45,ntmps45;go_upto_block 0 with fail;obtain⟨V,hV⟩:∃V,w.alloc (.cells #[.int .i64 L0,.int .i64 L1,.int .i64 L2,.int .i64 L3,.int .i64 L4] 97)=V:=⟨_,rfl⟩
 have hVs:V.heap.size=w.heap.size+1:=by rw[←hV];simp
 rw[hV]at HS1 HB1 HVB z0 z1 z5 ⊢;have HVS:Hid (V.heap.size=w.heap.size+1):=hVs;clear hV hVs;go_cut [10] (fun bv wx=>∃vs1 vo1,PS E G C n gi w.heap.size L0 w T vs1 vo1 wx)
 case first=>
  have c2:=HS1.out.c2;have c3:=HS1.out.c3;by_cases h34:io=34
  ·have q1:(io==34)=true:=by simpa using h34
   have q2:(io==36)=false:=by have:io≠36:=oM;simpa using this
   obtain⟨g,cap,w3,hr,hb3,c33,f33,c32,hfar,hw3⟩:=F7 HS1.out.x (by have:=HM.out (.inl h34);omega) false N s.set.length;have HT1:Hid (T=⟨s.set,⟨false,N,s.set.length⟩::s.opens⟩):=by show _=_;rw[HT.out,if_pos (.inl h34)];rw[show(io==36)=false from q2]
   obtain⟨pS,cS,hvs⟩:=AU HS1.out.set;obtain⟨y0,y1,y5⟩:=HE.out w3 (HB1.out.trans hb3);have HP:Hid (PS E G C n gi w.heap.size L0 w T vs (.slice (some ⟨g,0,none⟩) (s.opens.length+1) cap) (w3.setCell ⟨G,3,none⟩ (.slice (some ⟨g,0,none⟩) (s.opens.length+1) cap))):=by
    refine⟨(HB1.out.trans hb3).setCell HS.out.hG _,?_,?_,oM,oM⟩
    ·rw[HT1.out];exact WX.st (s:=⟨s.set,⟨false,N,s.set.length⟩::s.opens⟩) hw3 fun j _=>rfl
    ·exact MN
   have HR3:Hid ((Builtin.append_ #[67,67] 67 #[vo,.slice (some ⟨V.heap.size,0,none⟩) 1 1]).run prog ((V.alloc (.cells #[.bool false,.int .i64 N,.int .i64 (s.set.length:Int)] 120)).drew)=.ok (.slice (some ⟨g,0,none⟩) (s.opens.length+1) cap) w3):=hr;subst hvs;have c5:(w3.setCell ⟨G,3,none⟩ (.slice (some ⟨g,0,none⟩) (s.opens.length+1) cap)).cell? ⟨G,2,none⟩=some (.slice pS s.set.length cS):=by rw[World.cell?_setCell_other _ _ _ _ sM];exact c32
   have nG2:G≠V.heap.size:=by have:=HVS.out;omega
   have c4:(V.alloc (.cells #[.bool false,.int .i64 N,.int .i64 (s.set.length:Int)] 120)).cell? ⟨G,3,none⟩=some vo:=kc (A0 _ _) c3;have nb2:b≠V.heap.size:=by have:=HVS.out;omega
   clear hr hb3 hfar hw3 h34;exact Mv
  by_cases h36:io=36
  ·have q1:(io==34)=false:=by simpa using h34
   have q2:(io==36)=true:=by simpa using h36
   obtain⟨g,cap,w3,hr,hb3,c33,f33,c32,hfar,hw3⟩:=F7 HS1.out.x (by have:=HM.out (.inr h36);omega) true N s.set.length;have HT1:Hid (T=⟨s.set,⟨true,N,s.set.length⟩::s.opens⟩):=by show _=_;rw[HT.out,if_pos (.inr h36)];rw[show(io==36)=true from q2]
   obtain⟨pS,cS,hvs⟩:=AU HS1.out.set;obtain⟨y0,y1,y5⟩:=HE.out w3 (HB1.out.trans hb3);have HP:Hid (PS E G C n gi w.heap.size L0 w T vs (.slice (some ⟨g,0,none⟩) (s.opens.length+1) cap) (w3.setCell ⟨G,3,none⟩ (.slice (some ⟨g,0,none⟩) (s.opens.length+1) cap))):=by
    refine⟨(HB1.out.trans hb3).setCell HS.out.hG _,?_,?_,oM,oM⟩
    ·rw[HT1.out];exact WX.st (s:=⟨s.set,⟨true,N,s.set.length⟩::s.opens⟩) hw3 fun j _=>rfl
    ·exact MN
   have HR3:Hid ((Builtin.append_ #[67,67] 67 #[vo,.slice (some ⟨V.heap.size,0,none⟩) 1 1]).run prog ((V.alloc (.cells #[.bool true,.int .i64 N,.int .i64 (s.set.length:Int)] 120)).drew)=.ok (.slice (some ⟨g,0,none⟩) (s.opens.length+1) cap) w3):=hr;subst hvs;have c5:(w3.setCell ⟨G,3,none⟩ (.slice (some ⟨g,0,none⟩) (s.opens.length+1) cap)).cell? ⟨G,2,none⟩=some (.slice pS s.set.length cS):=by rw[World.cell?_setCell_other _ _ _ _ sM];exact c32
   have nG2:G≠V.heap.size:=by have:=HVS.out;omega
   have c4:(V.alloc (.cells #[.bool true,.int .i64 N,.int .i64 (s.set.length:Int)] 120)).cell? ⟨G,3,none⟩=some vo:=kc (A0 _ _) c3;have nb2:b≠V.heap.size:=by have:=HVS.out;omega
   clear hr hb3 hfar hw3 h34 h36;exact Mv
  have q1:(io==34)=false:=by simpa using h34
  have q2:(io==36)=false:=by simpa using h36
  have hno:¬ (io=34\/io=36):=fun e=>e.elim h34 h36;by_cases h35:io=35\/io=37
  ·have HT1:Hid (T=BG s):=by show _=_;rw[HT.out,if_neg hno,if_pos h35]
   have HK:Hid (Calls prog 64 #[.pointer (some ⟨G,0,none⟩)] V fun e w'=>e=.returned (.tuple #[])/\Below E V w'/\(∀k,k<V.heap.size->k≠G->k≠gi->w'.heap[k]? =V.heap[k]?)/\∃vs' vo',WS E G C n gi vs' vo' w' (BG s)):=He E G C n gi vs vo s V HS1.out HOS.out hn (HQ.out h35);rcases h35 with h|h
   ·have q3:(io==35)=true:=by simpa using h
    exact MH
   ·have q3:(io==35)=false:=by have:io≠35:=oM;simpa using this
    have q4:(io==37)=true:=by simpa using h
    exact MH
  ·have HT1:Hid (T=s):=by show _=_;rw[HT.out,if_neg hno,if_neg h35]
   have q3:(io==35)=false:=by have:io≠35:=(fun e=>h35 (.inl e));simpa using this
   have q4:(io==37)=false:=by have:io≠37:=(fun e=>h35 (.inr e));simpa using this
   have HP:Hid (PS E G C n gi w.heap.size L0 w T vs vo V):=⟨HB1.out,by rw[HT1.out];exact HS1.out,HVB.out,oM,oM⟩
   clear h34 h35 h36 hno;go_wp2;go_meet;exact⟨_,_,HP.out⟩
 case rest=>
  obtain⟨vs1,vo1,ps⟩:=hcut;clear HS1 HB1 HVB z0 z1 z5 HVS HS HOS HM HQ HT;have HPS:Hid (PS E G C n gi w.heap.size L0 w T vs1 vo1 wc):=ps;have bx:=ps.box;have d1:=ps.st.c1;have hX:=ps.st.i;obtain⟨y0,y1,y5⟩:=HE.out wc ps.bel;clear ps;by_cases hz:L0=0
  ·have hz':(L0 != 0)=false:=by simpa using hz
   have hz2:(L0==0)=true:=by simpa using hz
   have HR1:Hid (R=T):=by show _=_;rw[HR.out,if_neg (fun e=>e.1 hz)]
   clear hz;go_wp2;refine rG (fun v=>v.cell? ⟨w.heap.size,0,none⟩=some (.int .i64 L0)) fun hHeld=>?_;refine Tc 0 1 2 ?_;refine Bo 3 ?_;refine Kd 4 5 6 7 ?_;refine Kd 8 9 10 11 ?_;refine Ek 12 ?_;refine Ek 13 ?_;refine Ek 14 ?_;refine Bo 15 ?_;refine wpAnyH_done kR ?_ _;go_wp2;first|go_end0|(simp only[Exit.inBlock,Exit.then];refine bodyPost_ret (results_none rfl _ _ _) rfl ?_)|refine bodyPost_ret (results_none rfl _ _ _) rfl ?_
   exact⟨rfl,HPS.out.bel.drew,_,_,by rw[HR1.out];exact HPS.out.st.below (Ah _)⟩
  ·have hz':(L0 != 0)=true:=by simpa using hz
   have hz2:(L0==0)=false:=by simpa using hz
   obtain⟨hD0,hDn⟩:=HD.out hz;obtain⟨x,rfl⟩:∃x:Nat,D=(x:Int):=⟨D.toNat,oM⟩
   have hxn:x<n:=oM;have v1:=hX.cell hxn;have v2:=hX.frozen x;rw[Int.toNat_natCast]at HR;have HR1:Hid (R=if x∉T.set then⟨T.set++[x],T.opens⟩else T):=by
    show _=_;rw[HR.out];by_cases hx:x∈T.set
    ·rw[if_neg (fun e=>e.2 hx),if_neg (fun e=>e hx)]
    ·rw[if_pos ⟨hz,hx⟩,if_pos hx]
   clear hX HR hz;by_cases hx:x∈T.set
   ·have hdec:decide (x∈T.set)=true:=by simpa using hx
    have HR2:Hid (R=T):=by show _=_;rw[HR1.out,if_neg (fun e=>e hx)]
    rw[hdec]at v1;clear HR1 hx;go_wp2;refine rG (fun v=>v.cell? ⟨w.heap.size,0,none⟩=some (.int .i64 L0)/\v.cell? ⟨b,o+1,none⟩=some (.int .i64 (x:Int))/\v.cell? ⟨G,1,none⟩=some (.slice (some ⟨gi,0,none⟩) n n)/\v.cell? ⟨gi,x,none⟩=some (.bool true)) fun hHeld=>?_;refine Tf 0 1 2 3 4 5 ?_;refine Tf 6 7 8 9 10 11 ?_;refine Tc 12 13 14 ?_;refine Bo 15 ?_;refine wpAnyH_done kR ?_ _;go_wp2;first|go_end0|(simp only[Exit.inBlock,Exit.then];refine bodyPost_ret (results_none rfl _ _ _) rfl ?_)|refine bodyPost_ret (results_none rfl _ _ _) rfl ?_
    exact⟨rfl,HPS.out.bel.drew,_,_,by rw[HR2.out];exact HPS.out.st.below (Ah _)⟩
   ·have hdec:decide (x∈T.set)=false:=by simpa using hx
    have HR2:Hid (R=⟨T.set++[x],T.opens⟩):=by show _=_;rw[HR1.out,if_pos hx]
    rw[hdec]at v1;have HNX:Hid (x∉T.set):=hx;clear HR1 hx;obtain⟨V2,hV2⟩:∃V2,(wc.setCell ⟨gi,x,none⟩ (.bool true)).drew.drew=V2:=⟨_,rfl⟩
    have HV2:Hid ((wc.setCell ⟨gi,x,none⟩ (.bool true)).drew.drew=V2):=hV2;have hW2:WX E G C n gi vs1 vo1 V2 T.set T.opens (fun j=>if j=x then true else decide (j∈T.set)):=by rw[←hV2];exact((HPS.out.st.x.put x true).below (Ah _)).below (Ah _)
    have hB2:Below E w V2:=by rw[←hV2];exact(HPS.out.bel.setCell HPS.out.st.hgi _).drew.drew
    obtain⟨g,cap,w3,hr,hb3,c32,f32,hw3⟩:=Jx hW2 (Nat.le_trans HOK.out.len hn) x;have HR3:Hid ((Builtin.append_ #[61,61] 61 #[vs1,.slice (some ⟨V2.heap.size,0,none⟩) 1 1]).run prog ((V2.alloc (.cells #[.int .i64 (x:Int)] 3)).drew)=.ok (.slice (some ⟨g,0,none⟩) (T.set.length+1) cap) w3):=hr;obtain⟨_,u1,_⟩:=HE.out V2 hB2;obtain⟨_,u3,_⟩:=HE.out w3 (hB2.trans hb3);have u2:=hW2.c2;have u4:(V2.alloc (.cells #[.int .i64 (x:Int)] 3)).cell? ⟨G,2,none⟩=some vs1:=kc (A0 _ _) u2;have nG3:G≠V2.heap.size:=by have:=hW2.g.lt;omega
    have nb3:b≠V2.heap.size:=by have:=hW2.g.lt;have:=hW2.hG;omega
    have HF:Hid (Below E w (w3.setCell ⟨G,2,none⟩ (.slice (some ⟨g,0,none⟩) (T.set.length+1) cap))/\WS E G C n gi (.slice (some ⟨g,0,none⟩) (T.set.length+1) cap) vo1 (w3.setCell ⟨G,2,none⟩ (.slice (some ⟨g,0,none⟩) (T.set.length+1) cap)) R):=by
     refine⟨(hB2.trans hb3).setCell hW2.hG _,?_⟩;rw[HR2.out];refine WX.st (s:=⟨T.set++[x],T.opens⟩) hw3 fun j _=>?_;by_cases hj:j=x
     ·subst hj;simp
     ·rw[if_neg hj];simp[hj]
    have i5:(0:Int)<=(x:Int):=oM;have i6:(x:Int)<(n:Int):=oM;clear hr hb3 hw3 hW2 hB2 hV2;go_wp2;refine rG (fun v=>v.cell? ⟨w.heap.size,0,none⟩=some (.int .i64 L0)/\v.cell? ⟨b,o+1,none⟩=some (.int .i64 (x:Int))/\v.cell? ⟨G,1,none⟩=some (.slice (some ⟨gi,0,none⟩) n n)/\v.cell? ⟨gi,x,none⟩=some (.bool false)) fun hHeld=>?_;refine Tf 0 1 2 3 4 5 ?_;refine Tf 6 7 8 9 10 11 ?_;refine Tc 12 13 14 ?_;refine Bo 15 ?_;refine wpAnyH_done kR ?_ _;go_wp2;refine rG (fun v=>v.cell? ⟨b,o+1,none⟩=some (.int .i64 (x:Int))/\v.cell? ⟨G,1,none⟩=some (.slice (some ⟨gi,0,none⟩) n n)) fun hHeld=>?_;refine Tf 0 1 2 3 4 5 ?_;refine Tc 6 7 8 ?_;clear hHeld;refine Aw 9 fun K hK=>?_;go_simp;refine As hK fun hHeld=>?_;clear hK K;refine wpAnyH_done kR ?_ _;go_wp2;rw[HV2.out];refine rG (fun v=>v.cell? ⟨b,o+1,none⟩=some (.int .i64 (x:Int))) fun hHeld=>?_;refine Tf 0 1 2 3 5 6 ?_;refine Tb 7 8 ?_;clear hHeld;refine wpAnyH_ready (rs:=[4,9]) kR sM ?_;refine CM 4 (fun K hK=>?_) ?_
    ·go_simp;refine As hK fun hHeld=>?_;clear hK K;clear hHeld;refine Aw 9 fun K hK=>?_;exact MA
    refine CM 9 (fun K hK=>?_) AllReadyH.nil;go_simp;refine As hK fun hHeld=>?_;clear hK K;clear hHeld;refine Aw 4 fun K hK=>?_;exact MA
theorem Gp(op:Int)(h:Au op=false)(w:World):Calls prog 41 #[.int .i64 op] w fun e w'=>e=.returned (.tuple #[BD ⟨0,0,0,0,0⟩,.bool false])/\Below w.heap.size w w':=by
 have hh:op<1\/37<op:=by unfold Au at h;simp at h;omega
 have e1:(op==1)=false:=by have:op≠1:=oM;simpa using this
 have e2:(op==2)=false:=by have:op≠2:=oM;simpa using this
 have e3:(op==3)=false:=by have:op≠3:=oM;simpa using this
 have e4:(op==4)=false:=by have:op≠4:=oM;simpa using this
 have e5:(op==5)=false:=by have:op≠5:=oM;simpa using this
 have e6:(op==6)=false:=by have:op≠6:=oM;simpa using this
 have e7:(op==7)=false:=by have:op≠7:=oM;simpa using this
 have e8:(op==8)=false:=by have:op≠8:=oM;simpa using this
 have e9:(op==9)=false:=by have:op≠9:=oM;simpa using this
 have e10:(op==10)=false:=by have:op≠10:=oM;simpa using this
 have e11:(op==11)=false:=by have:op≠11:=oM;simpa using this
 have e12:(op==12)=false:=by have:op≠12:=oM;simpa using this
 have e13:(op==13)=false:=by have:op≠13:=oM;simpa using this
 have e14:(op==14)=false:=by have:op≠14:=oM;simpa using this
 have e15:(op==15)=false:=by have:op≠15:=oM;simpa using this
 have e16:(op==16)=false:=by have:op≠16:=oM;simpa using this
 have e17:(op==17)=false:=by have:op≠17:=oM;simpa using this
 have e18:(op==18)=false:=by have:op≠18:=oM;simpa using this
 have e19:(op==19)=false:=by have:op≠19:=oM;simpa using this
 have e20:(op==20)=false:=by have:op≠20:=oM;simpa using this
 have e21:(op==21)=false:=by have:op≠21:=oM;simpa using this
 have e22:(op==22)=false:=by have:op≠22:=oM;simpa using this
 have e23:(op==23)=false:=by have:op≠23:=oM;simpa using this
 have e24:(op==24)=false:=by have:op≠24:=oM;simpa using this
 have e25:(op==25)=false:=by have:op≠25:=oM;simpa using this
 have e26:(op==26)=false:=by have:op≠26:=oM;simpa using this
 have e27:(op==27)=false:=by have:op≠27:=oM;simpa using this
 have e28:(op==28)=false:=by have:op≠28:=oM;simpa using this
 have e29:(op==29)=false:=by have:op≠29:=oM;simpa using this
 have e30:(op==30)=false:=by have:op≠30:=oM;simpa using this
 have e31:(op==31)=false:=by have:op≠31:=oM;simpa using this
 have e32:(op==32)=false:=by have:op≠32:=oM;simpa using this
 have e33:(op==33)=false:=by have:op≠33:=oM;simpa using this
 have e34:(op==34)=false:=by have:op≠34:=oM;simpa using this
 have e35:(op==35)=false:=by have:op≠35:=oM;simpa using this
 have e36:(op==36)=false:=by have:op≠36:=oM;simpa using this
 have e37:(op==37)=false:=by have:op≠37:=oM;simpa using this
 clear hh h;exact Ch
theorem FF(op:Int)(h:Au op=false):A4 op=⟨0,0,0,0,0⟩:=by
 have hh:op<1\/37<op:=by unfold Au at h;simp at h;omega
 unfold A4
 repeat rw[if_neg oM]
theorem Dt(op:Int)(w:World):Calls prog 41 #[.int .i64 op] w fun e w'=>e=.returned (.tuple #[BD (A4 op),.bool (Au op)])/\Below w.heap.size w w':=by
 by_cases h:Au op=false
 ·rw[h,FF op h];exact Gp op h w
 ·have hh:1<=op/\op<=37:=by unfold Au at h;simp at h;omega
  rw[show Au op=true by simpa using h];clear h;by_cases k1:op=1
  ·subst k1;exact JY w
  by_cases k2:op=2
  ·subst k2;exact JZ w
  by_cases k3:op=3
  ·subst k3;exact K6 w
  by_cases k4:op=4
  ·subst k4;exact K7 w
  by_cases k5:op=5
  ·subst k5;exact K8 w
  by_cases k6:op=6
  ·subst k6;exact K9 w
  by_cases k7:op=7
  ·subst k7;exact Ka w
  by_cases k8:op=8
  ·subst k8;exact Kb w
  by_cases k9:op=9
  ·subst k9;exact Kc w
  by_cases k10:op=10
  ·subst k10;exact IE w
  by_cases k11:op=11
  ·subst k11;exact IF w
  by_cases k12:op=12
  ·subst k12;exact IG w
  by_cases k13:op=13
  ·subst k13;exact IH w
  by_cases k14:op=14
  ·subst k14;exact II w
  by_cases k15:op=15
  ·subst k15;exact IJ w
  by_cases k16:op=16
  ·subst k16;exact IK w
  by_cases k17:op=17
  ·subst k17;exact IL w
  by_cases k18:op=18
  ·subst k18;exact IM w
  by_cases k19:op=19
  ·subst k19;exact IN w
  by_cases k20:op=20
  ·subst k20;exact IP w
  by_cases k21:op=21
  ·subst k21;exact IQ w
  by_cases k22:op=22
  ·subst k22;exact IR w
  by_cases k23:op=23
  ·subst k23;exact IS w
  by_cases k24:op=24
  ·subst k24;exact IT w
  by_cases k25:op=25
  ·subst k25;exact IU w
  by_cases k26:op=26
  ·subst k26;exact IV w
  by_cases k27:op=27
  ·subst k27;exact IW w
  by_cases k28:op=28
  ·subst k28;exact IX w
  by_cases k29:op=29
  ·subst k29;exact IY w
  by_cases k30:op=30
  ·subst k30;exact IZ w
  by_cases k31:op=31
  ·subst k31;exact J0 w
  by_cases k32:op=32
  ·subst k32;exact J1 w
  by_cases k33:op=33
  ·subst k33;exact J2 w
  by_cases k34:op=34
  ·subst k34;exact J3 w
  by_cases k35:op=35
  ·subst k35;exact J4 w
  by_cases k36:op=36
  ·subst k36;exact J5 w
  by_cases k37:op=37
  ·subst k37;exact J6 w
  omega
theorem Jb{op:Int}(h:(A4 op).n=9):((op=29\/op=30)/\(A4 op).d=3)\/(op=31/\(A4 op).d=0/\(A4 op).a=3):=by
 have Cj:∀k:Fin 38,(A4 (k.val:Int)).n=9->k.val=29\/k.val=30\/k.val=31:=by decide+kernel
 by_cases hk:Au op=true
 ·have hh:1<=op/\op<=37:=by unfold Au at hk;simp at hk;exact hk
  have e:((⟨op.toNat,oM⟩:Fin 38).val:Int)=op:=by show((op.toNat:Nat):Int)=op;omega
  have:=Cj ⟨op.toNat,oM⟩ (by rw[e];exact h);simp only at this;rcases this with h1|h1|h1
  ·have:op=29:=oM;subst this;exact .inl ⟨.inl rfl,rfl⟩
  ·have:op=30:=oM;subst this;exact .inl ⟨.inr rfl,rfl⟩
  ·have:op=31:=oM;subst this;exact .inr ⟨rfl,rfl,rfl⟩
 ·rw[FF op (by simpa using hk)]at h;exact absurd h dE
theorem Ee{c:Cd}{n:Int}{m:Ty}(ht:B0 c=true)(h:Am c.regs 3 n m=true):BF (Dr c.regs n).par c.sign.length=true:=by
 unfold Am at h;rw[if_neg dE]at h;simp only[Bool.and_eq_true]at h;obtain⟨h1,h2⟩:=h;obtain⟨k,hk,hl⟩:=Ea h1;rw[EZ hk hl]at h2 ⊢;have hm:c.regs[k].kind=3:=by
  unfold DY at h2;rw[if_neg dE,if_neg dE,if_pos rfl]at h2;simpa using h2
 have:=List.all_eq_true.1 ht c.regs[k] (List.getElem_mem hl);unfold AP at this;rw[if_neg oM,if_pos hm]at this;exact this
theorem Hf{c:Cd}{i:Ab}(ht:B0 c=true)(hd:Am c.regs (A4 i.op).d i.d (At c.regs i (A4 i.op))=true)(ha:Am c.regs (A4 i.op).a i.a (At c.regs i (A4 i.op))=true)(h9:(A4 i.op).n=9):BF (At c.regs i (A4 i.op)).par c.sign.length=true:=by
 rcases Jb h9 with⟨_,e⟩|⟨_,e,e2⟩
 ·rw[e]at hd;have:=Ee ht hd;unfold At Fj;rw[e,if_neg dE];exact this
 ·rw[e2]at ha;have:=Ee ht ha;unfold At Fj;rw[e,if_pos rfl];exact this
theorem Iz{c:Cd}{i:Ab}{r:Rw}(h:AR c i r=true):∀x∈A8 i r,0<=x/\x<(c.regs.length:Int):=by
 intro x hx;unfold A8 at hx;rcases List.mem_append.1 hx with hx|hx
 ·by_cases e:r.a=0
  ·rw[if_pos e]at hx;cases hx
  ·rw[if_neg e]at hx;simp at hx;subst hx;exact Ag (C3 h) e
 rcases List.mem_append.1 hx with hx|hx
 ·by_cases e:r.b=0
  ·rw[if_pos e]at hx;cases hx
  ·rw[if_neg e]at hx;simp at hx;subst hx;exact Ag (CG h) e
 ·by_cases e:r.c=0
  ·rw[if_pos e]at hx;cases hx
  ·rw[if_neg e]at hx;simp at hx;subst hx;exact Ag (CH h) e
theorem Hr(i:Ab)(r:Rw):(A8 i r).length<=3:=by
 rw[Da];simp only[List.length_append];have:=Cc r.a i.a;have:=Cc r.b i.b;have:=Cc r.c i.c;omega
theorem FJ{c:Cd}{s:Wk}{i:Ab}{r:Rw}(h:AC c s i r=true)(e:i.op=35\/i.op=37):s.opens≠[]:=by
 unfold AC at h;rw[if_neg oM]at h;intro hO;rcases e with e|e
 ·rw[if_pos e,hO]at h;simp at h
 ·rw[if_neg oM,if_pos e]at h;unfold Bc at h;rw[hO]at h;cases h
structure TK(w:World)(H G C:Nat)(L0 L1 L2 L3 L4:Int)(v:World):Prop where
 bel:Below w.heap.size w v
 r0:v.cell? ⟨H,0,none⟩=some (.int .i64 L0)
 r1:v.cell? ⟨H,1,none⟩=some (.int .i64 L1)
 r2:v.cell? ⟨H,2,none⟩=some (.int .i64 L2)
 r3:v.cell? ⟨H,3,none⟩=some (.int .i64 L3)
 r4:v.cell? ⟨H,4,none⟩=some (.int .i64 L4)
 g0:v.cell? ⟨G,0,none⟩=some (.pointer (some ⟨C,0,none⟩))
theorem TK.next{w:World}{H G C:Nat}{L0 L1 L2 L3 L4:Int}{v v':World}(h:TK w H G C L0 L1 L2 L3 L4 v)(k:Below v.heap.size v v'):TK w H G C L0 L1 L2 L3 L4 v':=
 ⟨Go.Proofs.Ytchbjcldkcfffaa.bel h.bel k,kc k h.r0,kc k h.r1,kc k h.r2,kc k h.r3,kc k h.r4,kc k h.g0⟩
theorem FL(E G C n gi:Nat)(vs vo:Value)(s:Wk)(v0 v1 v2 v3:Value)(c:Cd)(hk:Bl c)(b o:Nat)(i:Ab)(w:World)(h:WS E G C n gi vs vo w s)(hnn:c.regs.length=n)(ok:CZ n s)(hn:n<=16384)(hc:AY w C v0 v1 v2 v3 c)(hi:Ae w b o (AS i))(hbE:b<E)(htm:B0 c=true)(hb0:0<=i.bits)(hb1:i.bits<4294967296):
 Calls prog 25 #[.pointer (some ⟨G,0,none⟩),.pointer (some ⟨b,o,none⟩)] w fun e w'=>e=.returned (.bool (AM c s i))/\Below E w w'/\(AM c s i=true->∃vs' vo',WS E G C n gi vs' vo' w' (AK s i)):=by
 have K1:=Dt i.op w;have K2:=fun v h1 h2=>I5 C v0 v1 v2 v3 c hk b o i (A4 i.op) v h1 h2 hb0 hb1 (Hf htm);have K3:=fun v h1 h2 h3=>ET E G C n gi vs vo s v0 v1 v2 v3 c hk b o i (A4 i.op) v h1 ok.nest h2 h3;have K4:=fun v h1=>CV b o i (A4 i.op) v h1;have K5:=fun(hf:AR c i (A4 i.op)=true) (hs:AC c s i (A4 i.op)=true) v h1 h2=>Iq E G C n gi vs vo s b o i (A4 i.op) v h1 ok hn h2 hbE (Ei hs) (FJ hs) (fun hd=>by have:=Ag (C4 hf) hd;rw[hnn]at this;exact this);have KL:AR c i (A4 i.op)=true->∀x∈A8 i (A4 i.op),0<=x/\x<(n:Int):=fun hf=>by have:=Iz hf;rw[hnn]at this;exact this
 have KN:=Hr i (A4 i.op);have HC0:Hid (AY w C v0 v1 v2 v3 c):=hc;have HI0:Hid (Ae w b o (AS i)):=hi;have HS0:Hid (WS E G C n gi vs vo w s):=h;have e0:=hi.at 0 rfl;rw[Nat.add_zero]at e0;have hE:=h.lt;have g0:=h.c0;unfold AM AK;have hro:Ed s i (A4 i.op)=(A8 i (A4 i.op)).all fun n=>decide (n.toNat∈s.set):=rfl;rw[hro];obtain⟨op,hop⟩:∃x,i.op=x:=⟨_,rfl⟩
 rw[hop]at K1 K2 K3 K4 K5 KL KN e0 ⊢;obtain⟨r,hr⟩:∃r,A4 op=r:=⟨_,rfl⟩
 simp only[hr]at K1 K2 K3 K4 K5 KL KN ⊢;obtain⟨X0,hX0⟩:∃X,Au op=X:=⟨_,rfl⟩
 obtain⟨X1,hX1⟩:∃X,AR c i r=X:=⟨_,rfl⟩
 obtain⟨X2,hX2⟩:∃X,AC c s i r=X:=⟨_,rfl⟩
 obtain⟨RL,hRL⟩:∃X,A8 i r=X:=⟨_,rfl⟩
 obtain⟨Z,hZ⟩:∃Z,DE s i r=Z:=⟨_,rfl⟩
 obtain⟨AL,hAL⟩:∃X,((A8 i r).all fun n=>decide (n.toNat∈s.set))=X:=⟨_,rfl⟩
 rw[hAL];simp only[hX0]at K1 ⊢;simp only[hX1]at K2 K5 KL ⊢;simp only[hX2]at K3 K5 ⊢;simp only[hRL]at K4 KL KN;rw[hRL]at hAL;have HAL:Hid ((RL.all fun n=>decide (n.toNat∈s.set))=AL):=hAL;simp only[hZ]at K5 ⊢;obtain⟨L0,L1,L2,L3,L4⟩:=r;unfold BD at K1 K2 K3 K4 K5;simp only at K1 K2 K3 K4 K5;have HK1:Hid (Calls prog 41 #[.int .i64 op] w fun e w'=>e=.returned (.tuple #[.agg #[.int .i64 L0,.int .i64 L1,.int .i64 L2,.int .i64 L3,.int .i64 L4],.bool X0])/\Below w.heap.size w w'):=K1;have HK2:Hid (∀v,AY v C v0 v1 v2 v3 c->Ae v b o (AS i)->Calls prog 42 #[.pointer (some ⟨C,0,none⟩),.pointer (some ⟨b,o,none⟩),.agg #[.int .i64 L0,.int .i64 L1,.int .i64 L2,.int .i64 L3,.int .i64 L4]] v fun e w'=>e=.returned (.bool X1)/\Below v.heap.size v w'):=K2;have HK3:Hid (∀v,WS E G C n gi vs vo v s->AY v C v0 v1 v2 v3 c->Ae v b o (AS i)->Calls prog 43 #[.pointer (some ⟨G,0,none⟩),.pointer (some ⟨b,o,none⟩),.agg #[.int .i64 L0,.int .i64 L1,.int .i64 L2,.int .i64 L3,.int .i64 L4]] v fun e w'=>e=.returned (.bool X2)/\Below v.heap.size v w'):=K3;have HK4:Hid (∀v,Ae v b o (AS i)->Calls prog 44 #[.agg #[.int .i64 L0,.int .i64 L1,.int .i64 L2,.int .i64 L3,.int .i64 L4],.pointer (some ⟨b,o,none⟩)] v fun e w'=>∃u,e=.returned u/\w'.ownsRow v.heap.size 3 1 u RL.length (Cm RL)/\Below v.heap.size v w'):=K4;have HK5:Hid (X1=true->X2=true->∀v,WS E G C n gi vs vo v s->Ae v b o (AS i)->Calls prog 45 #[.pointer (some ⟨G,0,none⟩),.pointer (some ⟨b,o,none⟩),.agg #[.int .i64 L0,.int .i64 L1,.int .i64 L2,.int .i64 L3,.int .i64 L4]] v fun e w'=>e=.returned (.tuple #[])/\Below E v w'/\∃vs' vo',WS E G C n gi vs' vo' w' Z):=K5;have HKL:Hid (X1=true->∀x∈RL,0<=x/\x<(n:Int)):=KL;clear K1 K2 K3 K4 K5 KL h hc hi hk hro hop hr hX0 hX1 hX2 hRL hZ hAL hb0 hb1 htm ok hnn;cases X0
 ·go_enter func25,ntmps25;go_wp2_with(go_at_call 41;refine HK1.out.mono ?_;rintro e w1 ⟨rfl,hw1⟩;have HT:Hid (TK w w1.heap.size G C L0 L1 L2 L3 L4 (w1.alloc (.cells #[.int .i64 L0,.int .i64 L1,.int .i64 L2,.int .i64 L3,.int .i64 L4] 97))):=LI);have HCX:Hid (∀v,Below (w1.alloc (.cells #[.int .i64 L0,.int .i64 L1,.int .i64 L2,.int .i64 L3,.int .i64 L4] 97)).heap.size (w1.alloc (.cells #[.int .i64 L0,.int .i64 L1,.int .i64 L2,.int .i64 L3,.int .i64 L4] 97)) v->v.cell? ⟨G,0,none⟩=some (.pointer (some ⟨C,0,none⟩))/\v.cell? ⟨w1.heap.size,0,none⟩=some (.int .i64 L0)/\v.cell? ⟨w1.heap.size,1,none⟩=some (.int .i64 L1)/\v.cell? ⟨w1.heap.size,2,none⟩=some (.int .i64 L2)/\v.cell? ⟨w1.heap.size,3,none⟩=some (.int .i64 L3)/\v.cell? ⟨w1.heap.size,4,none⟩=some (.int .i64 L4)):=fun v hv=>⟨(HT.out.next hv).g0,(HT.out.next hv).r0,(HT.out.next hv).r1,(HT.out.next hv).r2,(HT.out.next hv).r3,(HT.out.next hv).r4⟩;obtain⟨t0,t1,t2,t3,t4,t5⟩:=HCX.out _ (D0 _);refine rG (fun v=>v.cell? ⟨G,0,none⟩=some (.pointer (some ⟨C,0,none⟩))/\v.cell? ⟨w1.heap.size,0,none⟩=some (.int .i64 L0)/\v.cell? ⟨w1.heap.size,1,none⟩=some (.int .i64 L1)/\v.cell? ⟨w1.heap.size,2,none⟩=some (.int .i64 L2)/\v.cell? ⟨w1.heap.size,3,none⟩=some (.int .i64 L3)/\v.cell? ⟨w1.heap.size,4,none⟩=some (.int .i64 L4)) fun hHeld=>?_;refine Tc 0 1 2 ?_;refine Kd 3 4 5 6 ?_;refine Kd 7 8 9 10 ?_;refine Tb 11 12 ?_;refine Kd 13 14 15 16 ?_;refine Ek 17 ?_;refine Bo 18 ?_;refine wpAnyH_done kR ?_ _;go_wp2;go_ret;exact⟨rfl,(bel HT.out.bel (Ah _)).mono hE,fun e=>absurd e sM⟩
 cases X1
 ·go_enter func25,ntmps25;go_wp2_with(go_at_call 41;refine HK1.out.mono ?_;rintro e w1 ⟨rfl,hw1⟩;have HT:Hid (TK w w1.heap.size G C L0 L1 L2 L3 L4 (w1.alloc (.cells #[.int .i64 L0,.int .i64 L1,.int .i64 L2,.int .i64 L3,.int .i64 L4] 97))):=LI);have HCX:Hid (∀v,Below (w1.alloc (.cells #[.int .i64 L0,.int .i64 L1,.int .i64 L2,.int .i64 L3,.int .i64 L4] 97)).heap.size (w1.alloc (.cells #[.int .i64 L0,.int .i64 L1,.int .i64 L2,.int .i64 L3,.int .i64 L4] 97)) v->v.cell? ⟨G,0,none⟩=some (.pointer (some ⟨C,0,none⟩))/\v.cell? ⟨w1.heap.size,0,none⟩=some (.int .i64 L0)/\v.cell? ⟨w1.heap.size,1,none⟩=some (.int .i64 L1)/\v.cell? ⟨w1.heap.size,2,none⟩=some (.int .i64 L2)/\v.cell? ⟨w1.heap.size,3,none⟩=some (.int .i64 L3)/\v.cell? ⟨w1.heap.size,4,none⟩=some (.int .i64 L4)):=fun v hv=>⟨(HT.out.next hv).g0,(HT.out.next hv).r0,(HT.out.next hv).r1,(HT.out.next hv).r2,(HT.out.next hv).r3,(HT.out.next hv).r4⟩;obtain⟨t0,t1,t2,t3,t4,t5⟩:=HCX.out _ (D0 _);refine rG (fun v=>v.cell? ⟨G,0,none⟩=some (.pointer (some ⟨C,0,none⟩))/\v.cell? ⟨w1.heap.size,0,none⟩=some (.int .i64 L0)/\v.cell? ⟨w1.heap.size,1,none⟩=some (.int .i64 L1)/\v.cell? ⟨w1.heap.size,2,none⟩=some (.int .i64 L2)/\v.cell? ⟨w1.heap.size,3,none⟩=some (.int .i64 L3)/\v.cell? ⟨w1.heap.size,4,none⟩=some (.int .i64 L4)) fun hHeld=>?_;refine Tf 0 1 2 3 4 5 ?_;refine Tc 6 7 8 ?_;clear hHeld;refine Aw 9 fun K hK=>?_;go_simp;(go_at_call 42;refine(HK2.out _ (HC0.out.below (bel HT.out.bel (Ah _))) (HI0.out.below (bel HT.out.bel (Ah _)))).mono ?_;rintro e w2 ⟨rfl,hw2⟩;have HB2:=bel (Ah _) hw2;obtain⟨y0,y1,y2,y3,y4,y5⟩:=HCX.out w2 HB2);try(go_wp2_with fail)
  refine As hK fun hHeld=>?_;clear hK K;refine Tc 10 11 12 ?_;refine Kd 13 14 15 16 ?_;refine Ek 17 ?_;refine Bo 18 ?_;refine wpAnyH_done kR ?_ _;go_wp2;go_ret;exact⟨rfl,(bel HT.out.bel HB2).mono hE,fun e=>absurd e sM⟩
 cases X2
 ·go_enter func25,ntmps25;go_wp2_with(go_at_call 41;refine HK1.out.mono ?_;rintro e w1 ⟨rfl,hw1⟩;have HT:Hid (TK w w1.heap.size G C L0 L1 L2 L3 L4 (w1.alloc (.cells #[.int .i64 L0,.int .i64 L1,.int .i64 L2,.int .i64 L3,.int .i64 L4] 97))):=LI);have HCX:Hid (∀v,Below (w1.alloc (.cells #[.int .i64 L0,.int .i64 L1,.int .i64 L2,.int .i64 L3,.int .i64 L4] 97)).heap.size (w1.alloc (.cells #[.int .i64 L0,.int .i64 L1,.int .i64 L2,.int .i64 L3,.int .i64 L4] 97)) v->v.cell? ⟨G,0,none⟩=some (.pointer (some ⟨C,0,none⟩))/\v.cell? ⟨w1.heap.size,0,none⟩=some (.int .i64 L0)/\v.cell? ⟨w1.heap.size,1,none⟩=some (.int .i64 L1)/\v.cell? ⟨w1.heap.size,2,none⟩=some (.int .i64 L2)/\v.cell? ⟨w1.heap.size,3,none⟩=some (.int .i64 L3)/\v.cell? ⟨w1.heap.size,4,none⟩=some (.int .i64 L4)):=fun v hv=>⟨(HT.out.next hv).g0,(HT.out.next hv).r0,(HT.out.next hv).r1,(HT.out.next hv).r2,(HT.out.next hv).r3,(HT.out.next hv).r4⟩;obtain⟨t0,t1,t2,t3,t4,t5⟩:=HCX.out _ (D0 _);refine rG (fun v=>v.cell? ⟨G,0,none⟩=some (.pointer (some ⟨C,0,none⟩))/\v.cell? ⟨w1.heap.size,0,none⟩=some (.int .i64 L0)/\v.cell? ⟨w1.heap.size,1,none⟩=some (.int .i64 L1)/\v.cell? ⟨w1.heap.size,2,none⟩=some (.int .i64 L2)/\v.cell? ⟨w1.heap.size,3,none⟩=some (.int .i64 L3)/\v.cell? ⟨w1.heap.size,4,none⟩=some (.int .i64 L4)) fun hHeld=>?_;refine Tf 0 1 2 3 4 5 ?_;refine Tc 6 7 8 ?_;clear hHeld;refine Aw 9 fun K hK=>?_;go_simp;(go_at_call 42;refine(HK2.out _ (HC0.out.below (bel HT.out.bel (Ah _))) (HI0.out.below (bel HT.out.bel (Ah _)))).mono ?_;rintro e w2 ⟨rfl,hw2⟩;have HB2:=bel (Ah _) hw2;obtain⟨y0,y1,y2,y3,y4,y5⟩:=HCX.out w2 HB2);try(go_wp2_with fail)
  refine As hK fun hHeld=>?_;clear hK K;refine Tf 10 11 12 13 14 15 ?_;clear hHeld;refine Aw 16 fun K hK=>?_;go_simp;(go_at_call 43;refine(HK3.out _ (HS0.out.below (bel HT.out.bel HB2)) (HC0.out.below (bel HT.out.bel HB2)) (HI0.out.below (bel HT.out.bel HB2))).mono ?_;rintro e w3 ⟨rfl,hw3⟩;have HB3:=bel HB2 hw3;obtain⟨y0,y1,y2,y3,y4,y5⟩:=HCX.out w3 HB3);try(go_wp2_with fail)
  refine As hK fun hHeld=>?_;clear hK K;refine Tb 17 18 ?_;refine wpAnyH_done kR ?_ _;go_wp2;go_ret;exact⟨rfl,(bel HT.out.bel HB3).mono hE,fun e=>absurd e sM⟩
 go_enter func25,ntmps25;go_wp2_with(go_at_call 41;refine HK1.out.mono ?_;rintro e w1 ⟨rfl,hw1⟩;have HT:Hid (TK w w1.heap.size G C L0 L1 L2 L3 L4 (w1.alloc (.cells #[.int .i64 L0,.int .i64 L1,.int .i64 L2,.int .i64 L3,.int .i64 L4] 97))):=LI);have HCX:Hid (∀v,Below (w1.alloc (.cells #[.int .i64 L0,.int .i64 L1,.int .i64 L2,.int .i64 L3,.int .i64 L4] 97)).heap.size (w1.alloc (.cells #[.int .i64 L0,.int .i64 L1,.int .i64 L2,.int .i64 L3,.int .i64 L4] 97)) v->v.cell? ⟨G,0,none⟩=some (.pointer (some ⟨C,0,none⟩))/\v.cell? ⟨w1.heap.size,0,none⟩=some (.int .i64 L0)/\v.cell? ⟨w1.heap.size,1,none⟩=some (.int .i64 L1)/\v.cell? ⟨w1.heap.size,2,none⟩=some (.int .i64 L2)/\v.cell? ⟨w1.heap.size,3,none⟩=some (.int .i64 L3)/\v.cell? ⟨w1.heap.size,4,none⟩=some (.int .i64 L4)):=fun v hv=>⟨(HT.out.next hv).g0,(HT.out.next hv).r0,(HT.out.next hv).r1,(HT.out.next hv).r2,(HT.out.next hv).r3,(HT.out.next hv).r4⟩;obtain⟨t0,t1,t2,t3,t4,t5⟩:=HCX.out _ (D0 _);refine rG (fun v=>v.cell? ⟨G,0,none⟩=some (.pointer (some ⟨C,0,none⟩))/\v.cell? ⟨w1.heap.size,0,none⟩=some (.int .i64 L0)/\v.cell? ⟨w1.heap.size,1,none⟩=some (.int .i64 L1)/\v.cell? ⟨w1.heap.size,2,none⟩=some (.int .i64 L2)/\v.cell? ⟨w1.heap.size,3,none⟩=some (.int .i64 L3)/\v.cell? ⟨w1.heap.size,4,none⟩=some (.int .i64 L4)) fun hHeld=>?_;refine Tf 0 1 2 3 4 5 ?_;refine Tc 6 7 8 ?_;clear hHeld;refine Aw 9 fun K hK=>?_;go_simp;(go_at_call 42;refine(HK2.out _ (HC0.out.below (bel HT.out.bel (Ah _))) (HI0.out.below (bel HT.out.bel (Ah _)))).mono ?_;rintro e w2 ⟨rfl,hw2⟩;have HB2:=bel (Ah _) hw2;obtain⟨y0,y1,y2,y3,y4,y5⟩:=HCX.out w2 HB2);try(go_wp2_with fail)
 refine As hK fun hHeld=>?_;clear hK K;refine Tf 10 11 12 13 14 15 ?_;clear hHeld;refine Aw 16 fun K hK=>?_;go_simp;(go_at_call 43;refine(HK3.out _ (HS0.out.below (bel HT.out.bel HB2)) (HC0.out.below (bel HT.out.bel HB2)) (HI0.out.below (bel HT.out.bel HB2))).mono ?_;rintro e w3 ⟨rfl,hw3⟩;have HB3:=bel HB2 hw3;obtain⟨y0,y1,y2,y3,y4,y5⟩:=HCX.out w3 HB3);try(go_wp2_with fail)
 refine As hK fun hHeld=>?_;clear hK K;refine Tb 17 18 ?_;refine wpAnyH_done kR ?_ _;have HT3:Hid (TK w w1.heap.size G C L0 L1 L2 L3 L4 w3):=HT.out.next HB3;clear HB2 HB3 hw2 hw3;go_wp2_with(go_at_call 44;refine(HK4.out _ (HI0.out.below HT3.out.bel)).mono ?_;rintro e w4 ⟨u,rfl,hu,hw4⟩;obtain⟨pu,cu,hue⟩:=AU hu;subst hue;have HU:Hid (w4.ownsRow w3.heap.size 3 1 (.slice pu RL.length cu) RL.length (Cm RL)):=hu;have HT4:Hid (TK w w1.heap.size G C L0 L1 L2 L3 L4 w4):=HT3.out.next hw4;clear hu hw4);have HSW:Hid (WS E G C n gi vs vo w4 s):=HS0.out.below HT4.out.bel;have k0:=HT4.out.r0;have k1:=HT4.out.r1;have k2:=HT4.out.r2;have k3:=HT4.out.r3;have k4:=HT4.out.r4;have HFX:Hid (∀j (hj:j<RL.length),∃ (gu x:Nat),pu=some ⟨gu,0,none⟩/\w4.cell? ⟨gu,j,none⟩=some (.int .i64 (x:Int))/\x<n/\w4.cell? ⟨gi,x,none⟩=some (.bool (decide (x∈s.set)))/\decide (x∈s.set)=decide (RL[j].toNat∈s.set)):=fun j hj=>by
  obtain⟨gu,cap,hv,_,_,_,_,hcl⟩:=Bj HU.out oM;simp only[Value.slice.injEq]at hv;have hx:=HKL.out fT RL[j] (List.getElem_mem hj);refine⟨gu,RL[j].toNat,hv.1,?_,oM,HSW.out.i.cell oM,rfl⟩;rw[show((RL[j].toNat:Nat):Int)=RL[j] by omega];exact hcl j _ (by simp[Cm,List.getElem?_eq_getElem hj])
 have d1:=HSW.out.c1;obtain⟨M,hM⟩:∃M,RL.length=M:=⟨_,rfl⟩
 have HM:Hid (RL.length=M):=hM;rw[hM]at KN ⊢;clear hM
 go_loopw [40] (fun iv wr=>wr=w4/\∃j:Nat,j<=M/\iv=.int .i64 j/\Hid (∀i (h:i<RL.length),i<j->decide (RL[i].toNat∈s.set)=true)) (fun iv _=>M-(intOf iv).toNat)
 case atStart=>exact⟨rfl,0,Nat.zero_le _,rfl,fun i h hi=>absurd hi (Nat.not_lt_zero _)⟩
 case round=>
  clear HT HT3 HCX t0 t1 t2 t3 t4 t5 y0 y1 y2 y3 y4 y5;obtain⟨rfl,j,hj,rfl,hp⟩:=hrel;by_cases hlt:j<M
  ·have hll:j<RL.length:=by rw[HM.out];exact hlt
   obtain⟨gu,x,rfl,a1,a2,a3,a4⟩:=HFX.out j hll;have NX:Hid (decide (RL[j].toNat∈s.set)=true->∀i (h:i<RL.length),i<j+1->decide (RL[i].toNat∈s.set)=true):=fun hq i h hi=>by
    exact Lc
   have NB:Hid (decide (RL[j].toNat∈s.set)=false->(RL.all fun n=>decide (n.toNat∈s.set))=false):=fun h=>List.all_eq_false.2 ⟨RL[j],List.getElem_mem hll,by rw[h];decide⟩;rw[←a4]at NX NB;have i1:(0:Int)<=(j:Int):=oM;have i2:(j:Int)<(M:Int):=oM;have i3:(0:Int)<=(x:Int):=oM;have i4:(x:Int)<(n:Int):=oM;obtain⟨Y,hY⟩:∃Y,decide (x∈s.set)=Y:=⟨_,rfl⟩
   rw[hY]at NX NB a3;clear hp hY a4 HFX HU;cases Y
   ·go_wp2;go_ret;have hF:AL=false:=by rw[←HAL.out];exact NB.out fT
    exact⟨by rw[hF];rfl,HT4.out.bel.mono hE,fun e=>absurd e (by simp[hF])⟩
   ·go_wp2;go_roundw
    case rel=>exact⟨fT,j+1,oM,gN,NX.out fT⟩
    case measure=>simp[intOf];omega
  ·have:j=M:=oM;subst this;have HF:Hid ((RL.all fun n=>decide (n.toNat∈s.set))=true):=List.all_eq_true.2 fun t ht=>by
    obtain⟨i,hi,rfl⟩:=List.mem_iff_getElem.1 ht;exact hp.out i hi (by rw[←HM.out];exact hi)
   clear hp;go_wp2_with(go_at_call 45;refine(HK5.out fT fT _ HSW.out (HI0.out.below HT4.out.bel)).mono ?_;rintro e w6 ⟨rfl,hb6,hws⟩;have HB6:Hid (Below E wr w6):=hb6;have HWS:Hid (∃vs' vo',WS E G C n gi vs' vo' w6 Z):=hws;clear hb6 hws);go_ret;exact⟨by rw[←HAL.out,HF.out];rfl,(HT4.out.bel.mono hE).trans HB6.out,fun _=>HWS.out⟩






def Bn:Wk->List Ab->Wk
 |s,[]=>s
 |s,i::r=>Bn (AK s i) r
def An(c:Cd):Wk->List Ab->Bool
 |_,[]=>true
 |s,i::r=>AM c s i&&An c (AK s i) r
theorem CA:∀ (l m:List Ab) (s:Wk),Bn s (l++m)=Bn (Bn s l) m
 |[],m,s=>rfl
 |i::l,m,s=>by simp only[List.cons_append,Bn];exact CA l m _
theorem Br(c:Cd):∀ (l m:List Ab) (s:Wk),An c s (l++m)=(An c s l&&An c (Bn s l) m)
 |[],m,s=>by simp[An,Bn]
 |i::l,m,s=>by simp only[List.cons_append,An,Bn,Br c l m,Bool.and_assoc]
theorem I7{c:Cd}:∀ {l:List Ab} {s:Wk} {k:Nat},(HY c s k l).1=0↔An c s l=true/\(Bn s l).opens.isEmpty=true
 |[],s,k=>by
  simp only[HY,An,Bn,true_and];by_cases h:s.opens.isEmpty=true
  ·simp[h]
  ·simp[h]
 |i::l,s,k=>by
  simp only[HY,An,Bn,Bool.and_eq_true];by_cases h:AM c s i=true
  ·rw[if_pos h,I7 (k:=k+1)];simp[h]
  ·rw[if_neg h];simp[h]
theorem Ax{c:Cd}:(Aj c).1=0↔BL c=0/\An c ⟨[],[]⟩ c.list=true/\(Bn ⟨[],[]⟩ c.list).opens.isEmpty=true:=by
 unfold Aj;by_cases h:BL c=0
 ·rw[if_neg (by simp[h]),I7];simp[h]
 ·rw[if_pos h];simp[h]
structure Rk where
 by_:Ab
 of_:Ty
 deriving DecidableEq
structure RW where
 ins:Nat->Nat
 hold:Rk->Option Nat
 reck:List Rk
 opn:List Nat
 left:List Ab
def Aa(i:Ab):Bool:=decide ((A4 i.op).d≠0)
theorem GV{i:Ab}(h:Aa i=true):i.op≠34/\i.op≠35/\i.op≠36/\i.op≠37:=by
 unfold Aa at h;simp only[decide_eq_true_eq]at h;refine⟨?_,?_,?_,?_⟩<;>(intro e;rw[e]at h;exact h dE)
theorem Hv{s:Wk}{i:Ab}(h:Aa i=true):C1 s i=s:=by
 obtain⟨h1,h2,h3,h4⟩:=GV h;unfold C1;rw[if_neg oM,if_neg oM]
theorem Gt{c:Cd}{x:Wk}{i:Ab}(t:AM c x i=true)(hs:Aa i=true):0<=i.d/\i.d<(c.regs.length:Int):=by
 obtain⟨_,t2,_,_⟩:=Ar t;unfold Aa at hs;exact Ag (C4 t2) (by simpa using hs)
theorem EJ{x:Wk}{i:Ab}(hs:Aa i=true):AK x i=Cp x i (A4 i.op):=by
 unfold AK DE;rw[Hv hs]
theorem Ij{s:Wk}{i:Ab}(h:Aa i=false):Cp s i (A4 i.op)=s:=by
 unfold Cp;rw[if_neg];unfold Aa at h;simp only[decide_eq_false_iff_not,Decidable.not_not]at h;exact fun e=>e.1 h
def Jj(s:List Nat×Nat)(i:Ab):List Nat×Nat:=(if i.op=34\/i.op=36 then s.2::s.1 else if i.op=35\/i.op=37 then s.1.tail else s.1,s.2+1)
def Hx(l:List Ab):List Nat×Nat:=l.foldl Jj ([],0)
def Ai(l:List Ab):List Nat:=(Hx l).1
theorem Hy(l:List Ab)(i:Ab):Hx (l++[i])=Jj (Hx l) i:=by unfold Hx;rw[List.foldl_append];rfl
theorem Ji:∀ (l:List Ab),(Hx l).2=l.length:=by
 have Cj:∀ (m:List Ab) (s:List Nat×Nat),(m.foldl Jj s).2=s.2+m.length:=by
  intro m;induction m with
  |nil=>intro s;rfl
  |cons i m ih=>intro s;rw[List.foldl_cons,ih];unfold Jj;simp;omega
 intro l;unfold Hx;rw[Cj];simp
theorem CN(l:List Ab)(i:Ab):Ai (l++[i])=if i.op=34\/i.op=36 then l.length::Ai l else if i.op=35\/i.op=37 then(Ai l).tail else Ai l:=by
 unfold Ai;rw[Hy];unfold Jj;simp only;rw[Ji]
def Ap(K:Nat->Bool)(f:Ab->Ab)(l:List Ab):Nat->List Ab
 |0=>[]
 |j+1=>Ap K f l j++(match l[j]? with |some i=>if K j then [f i]else [] |none=>[])
theorem BA{K:Nat->Bool}{f:Ab->Ab}{l:List Ab}{j:Nat}(h:j<l.length)(hK:K j=true):Ap K f l (j+1)=Ap K f l j++[f l[j]]:=by
 show Ap K f l j++_=_;rw[List.getElem?_eq_getElem h];simp[hK]
theorem D9{K:Nat->Bool}{f:Ab->Ab}{l:List Ab}{j:Nat}(hK:K j=false):Ap K f l (j+1)=Ap K f l j:=by
 show Ap K f l j++_=_;cases l[j]? <;>simp[hK]
theorem Cz(K:Nat->Bool)(f:Ab->Ab)(l:List Ab):∀j,(Ap K f l j).length<=j
 |0=>Nat.le_refl _
 |j+1=>by
  have h:=Cz K f l j;show(Ap K f l j++_).length<=_;rw[List.length_append];have h2:(match l[j]? with |some i=>if K j then [f i]else [] |none=>([]:List Ab)).length<=1:=by
   split
   ·split<;>simp
   ·simp
  omega
inductive DN(U K:Nat->Bool):List Nat->List Nat->List Bk->List Bk->Prop where
 |nil {X:List Nat}:DN U K X [] [] []
 |skipL {X S:List Nat} {o o':List Bk} {b a:Nat} {p:Int} (hK:K b=false) (ha:a<=X.length) (hu:∀r∈X.drop a,U r=false) (h:DN U K X S o o'):DN U K X (b::S) (⟨true,p,a⟩::o) o'
 |skipW {X S:List Nat} {o o':List Bk} {b a:Nat} {p:Int} (hK:K b=false) (ha:a<=X.length) (hu:∀r∈X.drop a,U r=false) (h:DN U K (X.take a) S o o'):DN U K X (b::S) (⟨false,p,a⟩::o) o'
 |keepL {X S:List Nat} {o o':List Bk} {b a a':Nat} {p:Int} (hK:K b=true) (h:DN U K X S o o'):DN U K X (b::S) (⟨true,p,a⟩::o) (⟨true,p,a'⟩::o')
 |keepW {X S:List Nat} {o o':List Bk} {b a a':Nat} {p:Int} (hK:K b=true) (ha:a<=X.length) (e:a'=((X.take a).filter U).length) (h:DN U K (X.take a) S o o'):DN U K X (b::S) (⟨false,p,a⟩::o) (⟨false,p,a'⟩::o')
theorem DN.growK{U K:Nat->Bool}{X S:List Nat}{o o':List Bk}(h:DN U K X S o o'):(∀b∈S,K b=true)->∀Y,DN U K (X++Y) S o o':=by
 induction h with
 |nil=>exact fun _ _=>.nil
 |skipL hK _ _ _ _=>exact fun hS=>absurd ((hS _ List.mem_cons_self).symm.trans hK) sM
 |skipW hK _ _ _ _=>exact fun hS=>absurd ((hS _ List.mem_cons_self).symm.trans hK) sM
 |keepL hK h ih=>exact fun hS Y=>.keepL hK (ih (fun b hb=>hS b (by simp[hb])) Y)
 |keepW hK ha e h ih=>
  intro hS Y;exact MV
theorem DN.growN{U K:Nat->Bool}{X S:List Nat}{o o':List Bk}(h:DN U K X S o o'):∀Y,(∀r∈Y,U r=false)->DN U K (X++Y) S o o':=by
 induction h with
 |nil=>exact fun _ _=>.nil
 |skipL hK ha hu h ih=>
  intro Y hY;refine .skipL hK sO (fun r hr=>?_) (ih Y hY);rw[List.drop_append_of_le_length ha]at hr;rcases List.mem_append.1 hr with e|e
  ·exact hu r e
  ·exact hY r e
 |skipW hK ha hu h ih=>
  intro Y hY;refine .skipW hK sO (fun r hr=>?_) ?_
  ·rw[List.drop_append_of_le_length ha]at hr;rcases List.mem_append.1 hr with e|e
   ·exact hu r e
   ·exact hY r e
  ·rw[List.take_append_of_le_length ha];exact h
 |keepL hK h ih=>exact fun Y hY=>.keepL hK (ih Y hY)
 |keepW hK ha e h ih=>
  intro Y hY;exact MV
theorem DN.shape{U K:Nat->Bool}{X S:List Nat}{o o':List Bk}(h:DN U K X S o o'):(∀b∈S,K b=true)->o.length=o'.length/\∀V V',Bc ⟨V,o⟩=Bc ⟨V',o'⟩/\CS ⟨V,o⟩=CS ⟨V',o'⟩:=by
 induction h with
 |nil=>exact fun _=>⟨rfl,fun _ _=>⟨rfl,rfl⟩⟩
 |skipL hK _ _ _ _=>exact fun hS=>absurd ((hS _ List.mem_cons_self).symm.trans hK) sM
 |skipW hK _ _ _ _=>exact fun hS=>absurd ((hS _ List.mem_cons_self).symm.trans hK) sM
 |keepL hK h ih=>exact fun hS=>⟨by simp[(ih (fun b hb=>hS b (by simp[hb]))).1],fun _ _=>⟨rfl,rfl⟩⟩
 |keepW hK ha e h ih=>exact fun hS=>⟨by simp[(ih (fun b hb=>hS b (by simp[hb]))).1],fun _ _=>⟨rfl,rfl⟩⟩
theorem DN.len{U K:Nat->Bool}{X S:List Nat}{o o':List Bk}(h:DN U K X S o o'):S.length=o.length:=by
 induction h with
 |nil=>rfl
 |skipL _ _ _ _ ih=>simp[ih]
 |skipW _ _ _ _ ih=>simp[ih]
 |keepL _ _ ih=>simp[ih]
 |keepW _ _ _ _ ih=>simp[ih]
structure Lt(c c':Cd)(K U:Nat->Bool)(f:Ab->Ab)(rho:Nat->Nat):Prop where
 hU:∀k (hk:k<c.list.length),Aa c.list[k]=true->U c.list[k].d.toNat=K k
 reads:∀k (hk:k<c.list.length),K k=true->∀r∈A8 c.list[k] (A4 c.list[k].op),(∃j,∃hj:j<c.list.length,Aa c.list[j]=true/\c.list[j].d.toNat=r.toNat)->U r.toNat=true
 around:∀k (hk:k<c.list.length),K k=true->∀b∈(if c.list[k].op=35\/c.list[k].op=37 then(Ai (c.list.take k)).tail else Ai (c.list.take k)),K b=true
 pair:∀k (hk:k<c.list.length),(c.list[k].op=35\/c.list[k].op=37)->∀b,(Ai (c.list.take k)).head?=some b->K b=K k
 inj:∀r s,U r=true->U s=true->rho r=rho s->r=s
 op:∀i,(f i).op=i.op
 n:∀i,(i.op=34\/i.op=35\/i.op=36\/i.op=37)->(f i).n=i.n
 fits:∀k (hk:k<c.list.length),K k=true->AR c c.list[k] (A4 c.list[k].op)=true->AR c' (f c.list[k]) (A4 c.list[k].op)=true
 main:∀k (hk:k<c.list.length),K k=true->c.list[k].op<35->AR c c.list[k] (A4 c.list[k].op)=true->At c'.regs (f c.list[k]) (A4 c.list[k].op)=At c.regs c.list[k] (A4 c.list[k].op)
 rd:∀i,A8 (f i) (A4 i.op)=(A8 i (A4 i.op)).map fun r=>((rho r.toNat:Nat):Int)
 d:∀i,Aa i=true->(f i).d.toNat=rho i.d.toNat
structure Ls(c:Cd)(K U:Nat->Bool)(rho:Nat->Nat)(j:Nat)(x x':Wk):Prop where
 set:x'.set=(x.set.filter U).map rho
 was:∀r∈x.set,∃k,∃hk:k<c.list.length,Aa c.list[k]=true/\c.list[k].d.toNat=r
 opens:DN U K x.set (Ai (c.list.take j)) x.opens x'.opens
section
variable {c c' : Cd} {K U : Nat -> Bool} {f : Ab -> Ab} {rho : Nat -> Nat}
theorem AV(h:An c ⟨[],[]⟩ c.list=true){j:Nat}(hj:j<c.list.length):AM c (Bn ⟨[],[]⟩ (c.list.take j)) c.list[j]=true:=by
 have e:c.list=c.list.take j++c.list[j]::c.list.drop (j+1):=by rw[←List.drop_eq_getElem_cons hj,List.take_append_drop]
 rw[e,Br]at h;simp only[Bool.and_eq_true]at h;have h2:=h.2;unfold An at h2;simp only[Bool.and_eq_true]at h2;exact h2.1
theorem JC{U K:Nat->Bool}{X S:List Nat}{o o':List Bk}(h:DN U K X S o o'){t:Bool}(ho:o.isEmpty=false):∃b S1 q o1,S=b::S1/\o=q::o1/\((K b=false/\(∀r∈X.drop q.ahead,U r=false)/\q.ahead<=X.length/\DN U K (if q.loop then X else X.take q.ahead) S1 o1 o')\/(K b=true/\∃q' o1',o'=q'::o1'/\q'.loop=q.loop/\(q.loop=false->q.ahead<=X.length/\q'.ahead=((X.take q.ahead).filter U).length)/\DN U K (if q.loop then X else X.take q.ahead) S1 o1 o1')):=by
 cases h with
 |nil=>simp at ho
 |skipL hK ha hu h=>exact⟨_,_,_,_,rfl,rfl,.inl ⟨hK,hu,ha,h⟩⟩
 |skipW hK ha hu h=>exact⟨_,_,_,_,rfl,rfl,.inl ⟨hK,hu,ha,h⟩⟩
 |keepL hK h=>exact⟨_,_,_,_,rfl,rfl,.inr ⟨hK,_,_,rfl,rfl,fun e=>(by cases e),h⟩⟩
 |keepW hK ha e h=>exact⟨_,_,_,_,rfl,rfl,.inr ⟨hK,_,_,rfl,rfl,fun _=>⟨ha,e⟩,h⟩⟩
theorem Dz{U:Nat->Bool}{Y:List Nat}(h:∀r∈Y,U r=false):Y.filter U=[]:=by
 rw[List.filter_eq_nil_iff];intro r hr;rw[h r hr];simp
theorem Fc{U:Nat->Bool}{X:List Nat}{a:Nat}(h:∀r∈X.drop a,U r=false):(X.take a).filter U=X.filter U:=by
 conv=>rhs;rw[←List.take_append_drop a X,List.filter_append,Dz h,List.append_nil]
theorem Iv(hp:Lt c c' K U f rho){j:Nat}(hj:j<c.list.length){x x':Wk}(h:Ls c K U rho j x x')(t:AM c x c.list[j]=true):
 (K j=true->AM c' x' (f c.list[j])=true/\Ls c K U rho (j+1) (AK x c.list[j]) (AK x' (f c.list[j])))/\(K j=false->Ls c K U rho (j+1) (AK x c.list[j]) x'):=by
 obtain⟨t1,t2,t3,t4⟩:=Ar t;have hst:Ai (c.list.take (j+1))=if c.list[j].op=34\/c.list[j].op=36 then j::Ai (c.list.take j)else if c.list[j].op=35\/c.list[j].op=37 then(Ai (c.list.take j)).tail else Ai (c.list.take j):=by
  exact MY
 have har:=hp.around j hj;have hpa:=hp.pair j hj;have hu:=hp.hU j hj;have hrd:=hp.reads j hj;have hf:=fun hk=>hp.fits j hj hk t2;have hm:=fun hk ho=>hp.main j hj hk ho t2;have hop:=hp.op c.list[j];have hfn:=hp.n c.list[j];have hrr:=hp.rd c.list[j];have hdd:=hp.d c.list[j];have hwas:∀ (y:Wk),(∀r∈y.set,∃k,∃hk:k<c.list.length,Aa c.list[k]=true/\c.list[k].d.toNat=r)->∀r∈(Cp y c.list[j] (A4 c.list[j].op)).set,∃k,∃hk:k<c.list.length,Aa c.list[k]=true/\c.list[k].d.toNat=r:=fun y hy r hr=>by
  unfold Cp at hr;split at hr
  ·rename_i q;rcases List.mem_append.1 hr with e|e
   ·exact hy r e
   ·simp only[List.mem_singleton]at e;exact⟨j,hj,by unfold Aa;simpa using q.1,e.symm⟩
  ·exact hy r hr
 generalize hi:c.list[j]=i at t1 t2 t3 t4 hst har hpa hu hrd hf hm hop hfn hrr hdd hwas;obtain⟨X,O⟩:=x;obtain⟨X',O'⟩:=x';have hX:=h.set;have hO:=h.opens;have hW:=h.was;simp only at hX hO hW;have hS1:Aa (f i)=Aa i:=by unfold Aa;rw[hop]
 have stand:K j=true->AM c' ⟨X',O'⟩ (f i)=true:=fun hk=>by
  have hS:∀b∈(if i.op=35\/i.op=37 then(Ai (c.list.take j)).tail else Ai (c.list.take j)),K b=true:=har hk;have hall:∀b∈Ai (c.list.take j),K b=true:=by
   by_cases hfin:i.op=35\/i.op=37
   ·rw[if_pos hfin]at hS;intro b hb;cases hs:Ai (c.list.take j)with
    |nil=>rw[hs]at hb;cases hb
    |cons b0 S0=>
     rw[hs]at hb hS;rcases List.mem_cons.1 hb with e|e
     ·rw[e];have:=hpa hfin b0 L8;rw[this];exact hk
     ·exact hS b e
   ·rw[if_neg hfin]at hS;exact hS
  obtain⟨s1,s2⟩:=hO.shape hall;obtain⟨s3,s4⟩:=s2 X X';unfold AM;rw[hop];simp only[Bool.and_eq_true];refine⟨t1,hf hk,?_,?_⟩
  ·unfold AC at t3 ⊢;have e:O.isEmpty=O'.isEmpty:=by
    cases O with
    |nil=>cases O' with |nil=>rfl|cons _ _=>simp at s1
    |cons _ _=>cases O' with |nil=>simp at s1|cons _ _=>rfl
   rw[hop,←s3];simp only at s1 ⊢;rw[←s1,←e];by_cases ho:i.op<35
   ·rw[hm hk ho,←s4];exact t3
   ·unfold Au at t1;simp only[Bool.and_eq_true,decide_eq_true_eq]at t1;rcases(show i.op=35\/i.op=36\/i.op=37 by omega)with q|q|q
    ·rw[if_neg oM,if_pos q]at t3 ⊢;exact t3
    ·rw[if_pos (.inr q)]at t3 ⊢;exact t3
    ·rw[if_neg oM,if_neg oM,if_pos q]at t3 ⊢;exact t3
  ·unfold Ed at t4 ⊢;rw[hrr,List.all_eq_true];intro y hy;obtain⟨r,hr,rfl⟩:=List.mem_map.1 hy;rw[List.all_eq_true]at t4;have h4:r.toNat∈X:=by simpa using t4 r hr
   have hur:=hrd hk r hr (hW _ h4);simp only[Int.toNat_natCast,decide_eq_true_eq];rw[hX];exact List.mem_map.2 ⟨r.toNat,List.mem_filter.2 ⟨h4,hur⟩,rfl⟩
 by_cases hs:Aa i=true
 ·--a setting
  obtain⟨o4,o5,o6,o7⟩:=GV hs;have e1:AK ⟨X,O⟩ i=Cp ⟨X,O⟩ i (A4 i.op):=EJ hs;have e2:AK ⟨X',O'⟩ (f i)=Cp ⟨X',O'⟩ (f i) (A4 i.op):=by rw[EJ (by rw[hS1];exact hs),hop]
  have hdr:(A4 i.op).d≠0:=by unfold Aa at hs;simpa using hs
  have hst':Ai (c.list.take (j+1))=Ai (c.list.take j):=by rw[hst,if_neg oM,if_neg oM]
  have hu':=hu hs;refine⟨fun hk=>⟨stand hk,?_⟩,fun hk=>?_⟩
  ·rw[e1,e2];have hall:∀b∈Ai (c.list.take j),K b=true:=by have:=har hk;rw[if_neg oM]at this;exact this
   have hud:U i.d.toNat=true:=by rw[hu',hk]
   have hmem:(f i).d.toNat∈X'↔i.d.toNat∈X:=by
    rw[hX,hdd hs];constructor
    ·intro q;obtain⟨r,hr,e⟩:=List.mem_map.1 q;obtain⟨hr1,hr2⟩:=List.mem_filter.1 hr;rw[←hp.inj r i.d.toNat hr2 hud e];exact hr1
    ·exact fun q=>List.mem_map.2 ⟨_,List.mem_filter.2 ⟨q,hud⟩,rfl⟩
   refine⟨?_,hwas _ hW,?_⟩
   ·unfold Cp;by_cases q:i.d.toNat∈X
    ·rw[if_neg (fun w=>w.2 (hmem.2 q)),if_neg (fun w=>w.2 q)];exact hX
    ·rw[if_pos ⟨hdr,fun w=>q (hmem.1 w)⟩,if_pos ⟨hdr,q⟩];simp only;rw[List.filter_append,List.map_append,←hX,hdd hs];simp[hud]
   ·rw[hst'];unfold Cp;by_cases q:i.d.toNat∈X
    ·rw[if_neg (fun w=>w.2 q),if_neg (fun w=>w.2 (hmem.2 q))];exact hO
    ·rw[if_pos ⟨hdr,q⟩,if_pos ⟨hdr,fun w=>q (hmem.1 w)⟩];exact hO.growK hall _
  ·rw[e1];have hud:U i.d.toNat=false:=by rw[hu',hk]
   refine⟨?_,hwas _ hW,?_⟩
   ·unfold Cp;split
    ·simp only;rw[List.filter_append,Dz (Y:=[i.d.toNat]) (fun r hr=>by simp only[List.mem_singleton]at hr;rw[hr];exact hud),List.append_nil];exact hX
    ·exact hX
   ·rw[hst'];unfold Cp;split
    ·exact hO.growN _ (fun r hr=>by simp only[List.mem_singleton]at hr;rw[hr];exact hud)
    ·exact hO
 ·have hns:Aa i=false:=by simpa using hs
  have e1:AK ⟨X,O⟩ i=C1 ⟨X,O⟩ i:=by unfold AK DE;exact Ij hns
  have e2:AK ⟨X',O'⟩ (f i)=C1 ⟨X',O'⟩ (f i):=by unfold AK DE;exact Ij (by rw[hS1];exact hns)
  rw[e1,e2];unfold C1;rw[hop];by_cases hb:i.op=34\/i.op=36
  ·rw[if_pos hb,if_pos hb];rw[if_pos hb]at hst;have hfn':=hfn oM;refine⟨fun hk=>⟨stand hk,?_⟩,fun hk=>?_⟩
   ·refine⟨hX,hW,?_⟩;rw[hst,hfn'];rcases hb with e|e
    ·rw[show(i.op==36)=false by rw[e];rfl];refine .keepW hk (Nat.le_refl _) ?_ ?_
     ·rw[List.take_length,hX,List.length_map]
     ·rw[List.take_length];exact hO
    ·rw[show(i.op==36)=true by rw[e];rfl];exact .keepL hk hO
   ·refine⟨hX,hW,?_⟩;rw[hst];rcases hb with e|e
    ·rw[show(i.op==36)=false by rw[e];rfl];refine .skipW hk (Nat.le_refl _) (fun r hr=>by simp at hr) ?_;rw[List.take_length];exact hO
    ·rw[show(i.op==36)=true by rw[e];rfl];exact .skipL hk (Nat.le_refl _) (fun r hr=>by simp at hr) hO
  ·rw[if_neg hb,if_neg hb];rw[if_neg hb]at hst;by_cases hfin:i.op=35\/i.op=37
   ·rw[if_pos hfin,if_pos hfin];rw[if_pos hfin]at hst;have hne:O.isEmpty=false:=by
     unfold AC at t3;rw[if_neg hb]at t3;rcases hfin with e|e
     ·rw[if_pos e]at t3;simp only[Bool.and_eq_true,Bool.not_eq_true']at t3;exact t3.1
     ·rw[if_neg oM,if_pos e]at t3;unfold Bc at t3;cases O with
      |nil=>simp at t3
      |cons _ _=>rfl
    obtain⟨b,S1,q,o1,eS,eO,hc⟩:=JC hO (t:=true) hne;have hkb:=hpa hfin b (by rw[eS];rfl);rw[eS]at hst;simp only[List.tail_cons]at hst;subst eO;refine⟨fun hk=>⟨stand hk,?_⟩,fun hk=>?_⟩
    ·rcases hc with⟨k1,_⟩|⟨k1,q',o1',e',el,ea,k2⟩
     ·rw[k1]at hkb;rw[hk]at hkb;cases hkb
     ·subst e';unfold BG;simp only;rw[el];by_cases hl:q.loop=true
      ·rw[hl]at k2 ⊢;simp only[if_true]at k2 ⊢;exact⟨hX,hW,by rw[hst];exact k2⟩
      ·have hl':q.loop=false:=by simpa using hl
       rw[hl']at k2 ⊢;obtain⟨a1,a2⟩:=ea hl';refine⟨?_,fun r hr=>hW r (List.mem_of_mem_take hr),by rw[hst];exact k2⟩;show X'.take q'.ahead=((X.take q.ahead).filter U).map rho;rw[hX,a2]
       conv=>lhs;rw[←List.take_append_drop q.ahead X,List.filter_append,List.map_append]
       rw[List.take_append_of_le_length sM,List.take_of_length_le sM]
    ·rcases hc with⟨k1,ku,ka,k2⟩|⟨k1,_⟩
     ·unfold BG;simp only;by_cases hl:q.loop=true
      ·rw[hl]at k2 ⊢;simp only[if_true]at k2 ⊢;exact⟨hX,hW,by rw[hst];exact k2⟩
      ·have hl':q.loop=false:=by simpa using hl
       rw[hl']at k2 ⊢;refine⟨?_,fun r hr=>hW r (List.mem_of_mem_take hr),by rw[hst];exact k2⟩;show X'=((X.take q.ahead).filter U).map rho;rw[Fc ku];exact hX
     ·rw[k1]at hkb;rw[hk]at hkb;cases hkb
   ·rw[if_neg hfin,if_neg hfin];rw[if_neg hfin]at hst;exact⟨fun hk=>⟨stand hk,hX,hW,by rw[hst];exact hO⟩,fun hk=>⟨hX,hW,by rw[hst];exact hO⟩⟩
theorem Fy(hp:Lt c c' K U f rho)(h:An c ⟨[],[]⟩ c.list=true):∀j,j<=c.list.length->An c' ⟨[],[]⟩ (Ap K f c.list j)=true/\Ls c K U rho j (Bn ⟨[],[]⟩ (c.list.take j)) (Bn ⟨[],[]⟩ (Ap K f c.list j)):=by
 intro j;induction j with
 |zero=>intro _;exact⟨rfl,rfl,fun r hr=>(by cases hr),.nil⟩
 |succ j ih=>
  intro hj;obtain⟨i1,i2⟩:=ih oM;have hjl:j<c.list.length:=oM;have t:=AV h hjl;obtain⟨s1,s2⟩:=Iv hp hjl i2 t;have er:Bn ⟨[],[]⟩ (c.list.take (j+1))=AK (Bn ⟨[],[]⟩ (c.list.take j)) c.list[j]:=by rw[List.take_succ_eq_append_getElem hjl,CA];rfl
  rw[er];cases hk:K j with
  |true=>
   obtain⟨s3,s4⟩:=s1 hk;rw[BA hjl hk,Br,CA,i1];refine⟨?_,s4⟩;show(true&&An c' _ [f c.list[j]])=true;unfold An;rw[s3];rfl
  |false=>
   rw[D9 hk];exact⟨i1,s2 hk⟩
end
theorem GU:∀ (l:List Ab) (s:Wk),∀r∈(Bn s l).set,r∈s.set\/∃j∈l,Aa j=true/\j.d.toNat=r
 |[],s,r,hr=>.inl hr
 |i::l,s,r,hr=>by
  have hr':r∈(Bn (AK s i) l).set:=hr;rcases GU l (AK s i) r hr' with h|⟨j,hj,h⟩
  ·have h2:r∈s.set\/(Aa i=true/\i.d.toNat=r):=by
    unfold AK DE at h;have h3:r∈(C1 s i).set\/(Aa i=true/\i.d.toNat=r):=by
     unfold Cp at h;split at h
     ·rename_i q;rcases List.mem_append.1 h with h|h
      ·exact .inl h
      ·simp at h;exact .inr ⟨by unfold Aa;simpa using q.1,h.symm⟩
     ·exact .inl h
    rcases h3 with h3|h3
    ·left;unfold C1 at h3;split at h3
     ·exact h3
     ·split at h3
      ·unfold BG at h3;split at h3
       ·split at h3
        ·exact h3
        ·exact List.mem_of_mem_take h3
       ·exact h3
      ·exact h3
    ·exact .inr h3
   rcases h2 with h2|h2
   ·exact .inl h2
   ·exact .inr ⟨i,sM,h2⟩
  ·exact .inr ⟨j,List.mem_cons_of_mem i hj,h⟩
theorem Jp{c:Cd}{l:List Ab}(h:An c ⟨[],[]⟩ l=true){i:Ab}(hi:i∈l):∃L R,l=L++i::R/\AM c (Bn ⟨[],[]⟩ L) i=true:=by
 obtain⟨L,R,rfl⟩:=List.append_of_mem hi;rw[Br]at h;simp only[Bool.and_eq_true]at h;refine⟨L,R,rfl,?_⟩;have h2:=h.2;unfold An at h2;simp only[Bool.and_eq_true]at h2;exact h2.1
section
open Go.Maps (Keyed)
def Ml(q:Rk):List Value:=[.int .i64 q.by_.op,.int .i64 q.by_.d,.int .i64 q.by_.a,.int .i64 q.by_.b,.int .i64 q.by_.c,.int .i64 q.by_.n,.int .u32 q.by_.bits,.int .i64 q.of_.kind,.int .i64 q.of_.par]
end

end Go.Proofs.Ytchbjcldkcfffaa
