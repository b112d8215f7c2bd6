import Derived.WalkKit
import Derived.WalkSpells
import Derived.Test.YtbinohkcolcbfaaGreatPart1
import Ieee.Arith
import Derived.Laws.FloatBits
import Derived.Test.YtbinohkcolcbfaaGreatRows
import Derived.WalkLawsBesides
import Derived.Laws.FloatArith
import Derived.Below
import Derived.Laws.Externs
import Derived.Shelf.Strings.Builder1
import Derived.Shelf.Small.Strs
import Derived.Shelf.LaysM
import Derived.Shelf.Strconv.Clone
import Derived.Shelf.Strings.Search1
import Derived.Shelf.Strings.Prefix
import Derived.Test.YtbinohkcolcbfaaGreatProg
import Derived.Deep.Draws
import Derived.Laws.ComplexArith
import Derived.Deep.RegionHeld3
import Derived.Deep.DeepCutAuto
import Derived.Handy
import Derived.Deep.OwnRows
import Derived.OwnWalk
import Derived.Deep.QuietTactic
import Derived.BigQuiet
import Derived.Deep.AppendLies
namespace Go.Proofs.YtbinohkcolcbfaaGreat
open Go.RowKit Go.Proofs.Tryz
set_option linter.unusedVariables false
set_option linter.unusedSimpArgs false
set_option maxRecDepth 100000
set_option maxHeartbeats 16000000
theorem Zacy(a:Int)(k:Nat)(hk:k<32)(h0:0<=a)(h1:a<4294967296):bits .and .u32 a ((2^k-1:Nat):Int)=a%((2^k:Nat):Int):=by
 have hp:2^k<2^32:=Nat.pow_lt_pow_right oM hk;have hq:0<2^k:=Nat.two_pow_pos k;obtain⟨n,rfl⟩:=Int.eq_ofNat_of_zero_le h0;rw[u32_and _ _ h0 h1 oM oM,Int.toNat_natCast,Int.toNat_natCast,Nat.and_two_pow_sub_one_eq_mod];rfl
theorem and_23(a:Int)(h0:0<=a)(h1:a<4294967296):bits .and .u32 a 8388607=a%8388608:=Zacy a 23 oM h0 h1
theorem and_8(a:Int)(h0:0<=a)(h1:a<4294967296):bits .and .u32 a 255=a%256:=Zacy a 8 oM h0 h1
theorem Zaoo(a:Int)(h0:0<=a)(h1:a<4294967296):bits .and .u32 a 2147483648=if 2147483648<=a then 2147483648 else 0:=by
 rw[u32_and a _ h0 h1 oM oM,show(2147483648:Int).toNat=2^31 from rfl,nat_bit];split<;>omega
theorem Zadw(a:Int)(h0:0<=a)(h1:a<4294967296):(bits .and .u32 a 2147483648 != 0)=decide (2147483648<=a):=by
 rw[Zaoo a h0 h1];split<;>simp[*]
theorem Zyf(a:Int)(h0:0<=a)(h1:a<4294967296):bits .andNot .u32 a 2147483648=a%2147483648:=by
 rw[u32_andNot a _ h0 h1 oM oM,show 4294967295-(2147483648:Int).toNat=2^31-1 from rfl,Nat.and_two_pow_sub_one_eq_mod];omega
def cls(a:Int):Int:=
 if a/8388608%256=255 then(if a%8388608=0 then 4 else 5)else if a/8388608%256=0 then(if a%8388608=0 then 1 else 2)else 3
def nan(a:Int):Bool:=decide (2139095040<a%2147483648)
theorem Zxe(a:Int):nan a=true↔2139095040<a%2147483648:=by unfold nan;simp
theorem nan_not(a:Int):nan a=false↔a%2147483648<=2139095040:=by unfold nan;simp
theorem Zafn(a:Int)(h:nan a=true)(h0:0<=a)(h1:a<4294967296):cls a=5:=by
 rw[Zxe]at h;unfold cls;rw[if_pos oM,if_neg oM]
theorem Zaff(a:Int)(h:nan a=false)(h0:0<=a)(h1:a<4294967296):cls a≠5:=by
 rw[nan_not]at h;unfold cls;repeat' split
 all_goals omega
def key(a:Int):Int:=if 2147483648<=a then -1-(a-2147483648)else a
theorem Znp(a:Int)(h0:0<=a)(h1:a<4294967296):0<=(if nan a then 2143289344 else a)/\(if nan a then 2143289344 else a)<4294967296:=by split<;>omega
def ofKey(k:Int):Int:=if k<0 then 2147483648+(-1-k)else k
def canon(a:Int):Int:=if nan a then 2143289344 else a
def next(a:Int):Int:=if nan a then 2143289344 else if a=2139095040 then a else ofKey (key a+1)
def mk(m:Bool)(e f:Int):Int:=if m then e*8388608+f+2147483648 else e*8388608+f
structure Ty where
 kind:Int
 par:Int
 deriving DecidableEq
structure Sl where
 ty:Ty
 keep:Bool
 bits:Int
 int_:Int
 deriving DecidableEq
structure Ins where
 op:Int
 d:Int
 a:Int
 b:Int
 c:Int
 n:Int
 bits:Int
 deriving DecidableEq
structure Cd where
 sign:List Par
 regs:List Ty
 slots:List Sl
 list:List Ins
structure Rw where
 d:Int
 a:Int
 b:Int
 c:Int
 n:Int
 deriving DecidableEq
def rowP(op:Int):Rw:=
 if op=1 then⟨1,0,0,0,7⟩
 else if op=2 then⟨2,0,0,0,8⟩
 else if op=3 then⟨6,5,0,0,0⟩
 else if 4<=op/\op<=10 then⟨4,5,5,0,0⟩
 else if 11<=op/\op<=14 then⟨4,5,0,0,0⟩
 else if op=15 then⟨4,5,5,5,0⟩
 else if op=16 then⟨1,1,2,0,0⟩
 else if op=17 then⟨1,2,0,0,0⟩
 else if op=18 then⟨2,1,0,0,0⟩
 else if 19<=op/\op<=20 then⟨1,3,0,0,0⟩
 else if op=21\/op=25 then⟨2,2,0,0,0⟩
 else if op=26 then⟨2,2,2,2,0⟩
 else if 22<=op/\op<=28 then⟨2,2,2,0,0⟩
 else if 29<=op/\op<=30 then⟨3,0,0,0,9⟩
 else if op=31 then⟨0,3,0,0,9⟩
 else if op=32 then⟨6,0,0,0,10⟩
 else if op=33 then⟨0,6,0,0,10⟩
 else if op=34 then⟨0,2,0,0,0⟩
 else if op=36 then⟨0,0,0,0,11⟩
 else⟨0,0,0,0,0⟩
def Zih(op:Int):Bool:=decide (1<=op)&&decide (op<=37)
def Zjj(op:Int):Bool:=decide (3<=op)&&decide (op<=15)
def Zln(op:Int):Bool:=(decide (29<=op)&&decide (op<=33))||Zjj op
def isPl(n:Int)(k:Nat):Bool:=decide (0<=n)&&decide (n<(k:Int))
def Zls(n:Int):Bool:=decide (0<=n)&&decide (n<=2147483647)
def Zkn(a:Int):Bool:=decide ((if nan a then 2143289344 else a)=a)
def Zil(t:Ty)(n:Nat):Bool:=if t.kind=1\/t.kind=2 then t.par==0 else if t.kind=3 then isPl t.par n else false
def Znk(s:Sl):Bool:=if s.ty.kind=2 then s.bits==0&&Zls s.int_ else s.int_==0&&Zkn s.bits
def Zjh(s:Sl)(n:Nat):Bool:=Zil s.ty n&&Znk s
def regT(l:List Ty)(n:Int):Ty:=if isPl n l.length then(l[n.toNat]?).getD ⟨0,0⟩else⟨0,0⟩
def Znl(i:Ins)(r:Rw):Int:=if r.d=0 then i.a else i.d
def Zij(l:List Ty)(i:Ins)(r:Rw):Ty:=regT l (Znl i r)
def Zjk(l:Int)(t m:Ty):Bool:=
 if l=1 then t.kind==1
 else if l=2 then t.kind==2
 else if l=3 then t.kind==3
 else if l=4 then t.kind==1||t.kind==3
 else if l=5 then decide (t=m)||(t.kind==1&&m.kind==3)
 else decide (t=m)
def Zhw(rs:List Ty)(l n:Int)(m:Ty):Bool:=if l=0 then n==0 else isPl n rs.length&&Zjk l (regT rs n) m
def Zkx(ps:List Par)(n:Int):Int:=((ps[n.toNat]?).map fun p=>p.kind).getD 0
def slotT(ss:List Sl)(n:Int):Ty:=((ss[n.toNat]?).map fun s=>s.ty).getD ⟨0,0⟩
def Zpe(c:Cd)(n l:Int)(m:Ty):Bool:=
 if l=8 then Zls n
 else if l=9 then n==0||(n==1&&Zkx c.sign m.par==2)
 else if l=10 then isPl n c.slots.length&&decide (slotT c.slots n=m)
 else if l=11 then isPl n c.sign.length
 else n==0
def Zkh(c:Cd)(i:Ins)(l:Int)(m:Ty):Bool:=if l=7 then i.n==0&&Zkn i.bits else i.bits==0&&Zpe c i.n l m
def Zjp(c:Cd)(i:Ins)(r:Rw):Bool:=
 Zhw c.regs r.d i.d (Zij c.regs i r)&&(Zhw c.regs r.a i.a (Zij c.regs i r)&&(Zhw c.regs r.b i.b (Zij c.regs i r)&&(Zhw c.regs r.c i.c (Zij c.regs i r)&&Zkh c i r.n (Zij c.regs i r))))
structure Bk where
 loop:Bool
 par:Int
 ahead:Nat
structure Wk where
 set:List Nat
 opens:List Bk
def Zim(s:Wk):Bool:=match s.opens with |b::_=>b.loop|[]=>false
def Zlf(s:Wk):Int:=match s.opens with |b::_=>b.par|[]=>0
def Ziw(c:Cd)(s:Wk)(i:Ins)(r:Rw):Bool:=
 if i.op=34\/i.op=36 then !Zim s&&decide (s.opens.length<64)
 else if i.op=35 then !s.opens.isEmpty&& !Zim s
 else if i.op=37 then Zim s
 else !Zim s||(Zln i.op&&decide (Zij c.regs i r=⟨3,Zlf s⟩))
def Zid(i:Ins)(r:Rw):List Int:=(if r.a=0 then [] else [i.a])++((if r.b=0 then [] else [i.b])++(if r.c=0 then [] else [i.c]))
def Ziy(s:Wk):Wk:=match s.opens with
 |b::r=>⟨if b.loop then s.set else s.set.take b.ahead,r⟩
 |[]=>s
def Zmr(s:Wk)(i:Ins):Wk:=
 if i.op=34\/i.op=36 then⟨s.set,⟨i.op==36,i.n,s.set.length⟩::s.opens⟩else if i.op=35\/i.op=37 then Ziy s else s
def addP(s:Wk)(i:Ins)(r:Rw):Wk:=if r.d≠0/\i.d.toNat∉s.set then⟨s.set++[i.d.toNat],s.opens⟩else s
def Zol(s:Wk)(i:Ins)(r:Rw):Wk:=addP (Zmr s i) i r
def Zqk(s:Wk)(i:Ins)(r:Rw):Bool:=(Zid i r).all fun n=>decide (n.toNat∈s.set)
def Zjb(c:Cd)(s:Wk)(i:Ins):Bool:=Zih i.op&&(Zjp c i (rowP i.op)&&(Ziw c s i (rowP i.op)&&Zqk s i (rowP i.op)))
def Zib(s:Wk)(i:Ins):Wk:=Zol s i (rowP i.op)
def goP(c:Cd):Wk->Nat->List Ins->Int×Int
 |s,k,[]=>if s.opens.isEmpty then(0,0)else(160,k)
 |s,k,i::r=>if Zjb c s i then goP c (Zib s i) (k+1) r else(160,k)
def Zif(c:Cd):Bool:=c.regs.all fun t=>Zil t c.sign.length
def Zkc(c:Cd):Bool:=c.slots.all fun s=>Zjh s c.sign.length
def Zkw(c:Cd):Int:=
 if Ziz c.sign≠0 then Ziz c.sign
 else if 16384<c.regs.length\/32768<c.list.length then 181
 else if 4096<c.slots.length then 180
 else if Zif c&&Zkc c then 0 else 160
def Zik(c:Cd):Int×Int:=if Zkw c≠0 then(Zkw c,-1)else goP c ⟨[],[]⟩ 0 c.list
def okO:Nat->List Bk->Prop
 |_,[]=>True
 |n,b::r=>b.ahead<=n/\okO b.ahead r
theorem okO.mono:∀ {r:List Bk} {n m:Nat},okO n r->n<=m->okO m r
 |[],_,_,_,_=>trivial
 |b::r,n,m,h,k=>⟨Nat.le_trans h.1 k,h.2⟩
structure OkS(n:Nat)(s:Wk):Prop where
 nodup:s.set.Nodup
 lt:∀x∈s.set,x<n
 opens:okO s.set.length s.opens
 nest:s.opens.length<=64
theorem OkS.start(n:Nat):OkS n ⟨[],[]⟩:=⟨List.nodup_nil,fun x h=>absurd h sM,trivial,Nat.zero_le _⟩
theorem OkS.leave{n:Nat}{s:Wk}(h:OkS n s):OkS n (Ziy s):=by
 obtain⟨X,O⟩:=s;cases O with
 |nil=>exact h
 |cons b r=>
  obtain⟨h1,h2,⟨h3,h4⟩,h5⟩:=h;simp only[Ziy];simp only at h1 h2 h3 h4 h5;split
  ·exact⟨h1,h2,h4.mono h3,by simp at h5 ⊢;omega⟩
  ·refine⟨List.Sublist.nodup (List.take_sublist _ _) h1,fun x hx=>h2 x (List.mem_of_mem_take hx),?_,by simp at h5 ⊢;omega⟩;simp only[List.length_take];rw[Nat.min_eq_left h3];exact h4
theorem OkS.turn{n:Nat}{s:Wk}{i:Ins}(h:OkS n s)(hm:i.op=34\/i.op=36->s.opens.length<64):OkS n (Zmr s i):=by
 unfold Zmr;split
 ·rename_i e;exact⟨h.nodup,h.lt,⟨Nat.le_refl _,h.opens⟩,by have:=hm e;simp;omega⟩
 ·split
  ·exact h.leave
  ·exact h
theorem OkS.add{n:Nat}{s:Wk}{i:Ins}{r:Rw}(h:OkS n s)(hd:r.d≠0->i.d.toNat<n):OkS n (addP s i r):=by
 unfold addP;split
 ·rename_i e;refine⟨?_,fun x hx=>?_,h.opens.mono sM,h.nest⟩
  ·rw[List.nodup_append];refine⟨h.nodup,sM,fun a ha b hb=>?_⟩;simp at hb;subst hb;exact fun e'=>e.2 (e'▸ha)
  ·rcases List.mem_append.1 hx with hx|hx
   ·exact h.lt x hx
   ·simp at hx;subst hx;exact hd e.1
 ·exact h
theorem Zapi:∀ {n:Nat} {l:List Nat},l.Nodup->(∀x∈l,x<n)->l.length<=n:=by
 intro n;induction n with
 |zero=>intro l _ h;cases l with
  |nil=>exact Nat.le_refl _
  |cons a t=>exact absurd (h a sM) (Nat.not_lt_zero _)
 |succ n ih=>
  intro l hd h;have h1:=ih (l:=l.erase n) (hd.erase n) fun x hx=>by
   have h2:=h x (List.mem_of_mem_erase hx);have h3:x≠n:=fun e=>by
    subst e;exact(List.Nodup.not_mem_erase hd) hx
   omega
  have h2:l.length<=(l.erase n).length+1:=by
   rw[List.length_erase];split<;>omega
  omega
theorem OkS.len{n:Nat}{s:Wk}(h:OkS n s):s.set.length<=n:=Zapi h.nodup h.lt
theorem Zld{n:Int}{k:Nat}:isPl n k=true↔0<=n/\n<(k:Int):=by unfold isPl;simp
theorem Zie{rs:List Ty}{l n:Int}{m:Ty}(h:Zhw rs l n m=true)(hl:l≠0):0<=n/\n<(rs.length:Int):=by
 unfold Zhw at h;rw[if_neg hl]at h;simp only[Bool.and_eq_true]at h;exact Zld.1 h.1
theorem Zoa{c:Cd}{i:Ins}{r:Rw}(h:Zjp c i r=true):Zhw c.regs r.d i.d (Zij c.regs i r)=true:=by
 unfold Zjp at h;simp only[Bool.and_eq_true]at h;exact h.1
theorem Zmn{c:Cd}{i:Ins}{r:Rw}(h:Zjp c i r=true):Zhw c.regs r.a i.a (Zij c.regs i r)=true:=by
 unfold Zjp at h;simp only[Bool.and_eq_true]at h;exact h.2.1
theorem Zqf{c:Cd}{i:Ins}{r:Rw}(h:Zjp c i r=true):Zhw c.regs r.b i.b (Zij c.regs i r)=true:=by
 unfold Zjp at h;simp only[Bool.and_eq_true]at h;exact h.2.2.1
theorem Zqd{c:Cd}{i:Ins}{r:Rw}(h:Zjp c i r=true):Zhw c.regs r.c i.c (Zij c.regs i r)=true:=by
 unfold Zjp at h;simp only[Bool.and_eq_true]at h;exact h.2.2.2.1
theorem Zjv{c:Cd}{s:Wk}{i:Ins}(h:Zjb c s i=true):Zih i.op=true/\Zjp c i (rowP i.op)=true/\Ziw c s i (rowP i.op)=true/\Zqk s i (rowP i.op)=true:=by
 unfold Zjb at h;simp only[Bool.and_eq_true]at h;exact h
theorem Zsf{c:Cd}{s:Wk}{i:Ins}{r:Rw}(h:Ziw c s i r=true)(e:i.op=34\/i.op=36):s.opens.length<64:=by
 unfold Ziw at h;rw[if_pos e]at h;simp only[Bool.and_eq_true,decide_eq_true_eq]at h;exact h.2
theorem OkS.step{c:Cd}{s:Wk}{i:Ins}(h:OkS c.regs.length s)(t:Zjb c s i=true):OkS c.regs.length (Zib s i):=by
 obtain⟨_,h2,h3,_⟩:=Zjv t;refine(h.turn (Zsf h3)).add fun hd=>?_;have:=Zie (Zoa h2) hd;omega
theorem Zalw(a:Int)(h0:0<=a)(h1:a<4294967296)(w:World):
 Calls prog 158 #[.int .u32 a] w fun e w'=>e=.returned (.tuple #[.bool (decide (2147483648<=a)),.int .i64 (a/8388608%256),.int .i64 (a%8388608)])/\w'=w:=by
 exact Zeo
theorem Zzv(a:Int)(h0:0<=a)(h1:a<4294967296)(w:World):
 Calls prog 134 #[.int .u32 a] w fun e w'=>e=.returned (.int .i64 (cls a))/\w'=w:=by
 by_cases c1:a/8388608%256=255
 ·by_cases c2:a%8388608=0
  ·have hc:cls a=4:=by unfold cls;rw[if_pos c1,if_pos c2]
   exact Zbo
  ·have hc:cls a=5:=by unfold cls;rw[if_pos c1,if_neg c2]
   exact Zbo
 ·by_cases c2:a/8388608%256=0
  ·by_cases c3:a%8388608=0
   ·have hc:cls a=1:=by unfold cls;rw[if_neg c1,if_pos c2,if_pos c3]
    exact Zbo
   ·have hc:cls a=2:=by unfold cls;rw[if_neg c1,if_pos c2,if_neg c3]
    exact Zbo
  ·have hc:cls a=3:=by unfold cls;rw[if_neg c1,if_neg c2]
   exact Zbo
theorem Zajw(a:Int)(h0:0<=a)(h1:a<4294967296)(hn:nan a=true)(w:World):
 Calls prog 134 #[.int .u32 a] w fun e w'=>e=.returned (.int .i64 5)/\w'=w:=by
 have:=Zzv a h0 h1 w;rwa[Zafn a hn h0 h1]at this
theorem Zalr(a:Int)(h0:0<=a)(h1:a<4294967296)(w:World):
 Calls prog 101 #[.int .u32 a] w fun e w'=>e=.returned (.int .u32 (canon a))/\w'=w:=by
 cases hn:nan a
 ·have hc:canon a=a:=by unfold canon;simp[hn]
  have h5:(cls a==5)=false:=by have:=Zaff a hn h0 h1;simpa using this
  rw[hc];clear hc hn;go_enter func101,ntmps101;go_wp2_with(go_at_call 134;refine(Zzv _ h0 h1 _).mono ?_;rintro e w' ⟨rfl,rfl⟩);go_ret;exact⟨rfl,rfl⟩
 ·have hc:canon a=2143289344:=by unfold canon;simp[hn]
  rw[hc];clear hc;go_enter func101,ntmps101;go_wp2_with(go_at_call 134;refine(Zajw _ h0 h1 hn _).mono ?_;rintro e w' ⟨rfl,rfl⟩);go_ret;exact⟨rfl,rfl⟩
def tyC(t:Ty):List Value:=[.int .i64 t.kind,.int .i64 t.par]
def slC(s:Sl):List Value:=[.int .i64 s.ty.kind,.int .i64 s.ty.par,.bool s.keep,.int .u32 s.bits,.int .i64 s.int_]
def inC(i:Ins):List Value:=[.int .i64 i.op,.int .i64 i.d,.int .i64 i.a,.int .i64 i.b,.int .i64 i.c,.int .i64 i.n,.int .u32 i.bits]
theorem Zrs(t:Ty):(tyC t).length=2:=rfl
theorem Zue(t:Sl):(slC t).length=5:=rfl
theorem Zqe(t:Ins):(inC t).length=7:=rfl
theorem Zst(t:Par):(Zjc t).length=3:=rfl
def tyV(t:Ty):Value:=.agg #[.int .i64 t.kind,.int .i64 t.par]
def rwV(r:Rw):Value:=.agg #[.int .i64 r.d,.int .i64 r.a,.int .i64 r.b,.int .i64 r.c,.int .i64 r.n]
theorem kc{w w':World}(k:Below w.heap.size w w'){a:Addr}{v:Value}(h:w.cell? a=some v):w'.cell? a=some v:=(k.cell (Zhr h)).trans h
theorem kf{w w':World}(k:Below w.heap.size w w'){a:Addr}{v:Value}(h:w.cell? a=some v)(f:w.frozen? a=false):w'.frozen? a=false:=(k.frozen (Zhr h)).trans f
def Zhx(w:World)(b o:Nat)(cs:List Value):Prop:=∀j (h:j<cs.length),w.cell? ⟨b,o+j,none⟩=some cs[j]
theorem Zhx.below{w w':World}{b o:Nat}{cs:List Value}(h:Zhx w b o cs)(k:Below w.heap.size w w'):Zhx w' b o cs:=fun j hj=>(k.cell (Zhr (h j hj))).trans (h j hj)
theorem Zhx.at{w:World}{b o:Nat}{cs:List Value}(h:Zhx w b o cs)(j:Nat){v:Value}(e:cs[j]? =some v):w.cell? ⟨b,o+j,none⟩=some v:=by
 obtain⟨hj,e⟩:=List.getElem?_eq_some_iff.1 e;rw[h j hj,e]
theorem Zhx.of_block{w w':World}{b o:Nat}{cs:List Value}(h:Zhx w b o cs)(e:w'.heap[b]? =w.heap[b]?):Zhx w' b o cs:=fun j hj=>(World.cell?_of_block e).trans (h j hj)
def RowG{α:Type}(k:Nat)(f:α->List Value)(w:World)(v:Value)(l:List α):Prop:=
 ∃p c,v=.slice p l.length c/\(l=[]\/∃b o,p=some ⟨b,o,none⟩/\∀i (h:i<l.length),Zhx w b (o+i*k) (f l[i]))
theorem RowG.below{α:Type}{k:Nat}{f:α->List Value}{w w':World}{v:Value}{l:List α}(h:RowG k f w v l)(q:Below w.heap.size w w'):RowG k f w' v l:=by
 obtain⟨p,c,hv,h⟩:=h;exact⟨p,c,hv,h.imp id fun⟨b,o,hp,h⟩=>⟨b,o,hp,fun i hi=>(h i hi).below q⟩⟩
theorem RowG.at{α:Type}{k:Nat}{f:α->List Value}{w:World}{p:Option Addr}{n c:Nat}{l:List α}(h:RowG k f w (.slice p n c) l){i:Nat}(hi:i<l.length):∃b o,p=some ⟨b,o,none⟩/\Zhx w b (o+i*k) (f l[i]):=by
 obtain⟨p',c',hv,h⟩:=h;simp only[Value.slice.injEq]at hv;obtain⟨rfl,rfl,rfl⟩:=hv;rcases h with h|⟨b,o,hp,h⟩
 ·rw[h]at hi;exact absurd hi (Nat.not_lt_zero _)
 ·exact⟨b,o,hp,h i hi⟩
theorem RowG.rd{w:World}{v:Value}{l:List Par}(h:RowG 3 Zjc w v l):Rd w v l:=by
 obtain⟨p,c,hv,h⟩:=h;exact⟨p,c,hv,h.imp id fun⟨b,o,hp,h⟩=>⟨b,o,hp,fun i hi=>⟨(h i hi).at 0 rfl,(h i hi).at 1 rfl,(h i hi).at 2 rfl⟩⟩⟩
structure CdV(w:World)(v0 v1 v2 v3:Value)(c:Cd):Prop where
 sign:RowG 3 Zjc w v0 c.sign
 regs:RowG 2 tyC w v1 c.regs
 slots:RowG 5 slC w v2 c.slots
 list:RowG 7 inC w v3 c.list
theorem CdV.below{w w':World}{v0 v1 v2 v3:Value}{c:Cd}(h:CdV w v0 v1 v2 v3 c)(k:Below w.heap.size w w'):CdV w' v0 v1 v2 v3 c:=⟨h.sign.below k,h.regs.below k,h.slots.below k,h.list.below k⟩
def CdAt(w:World)(C:Nat)(v0 v1 v2 v3:Value)(c:Cd):Prop:=Zhx w C 0 [v0,v1,v2,v3]/\CdV w v0 v1 v2 v3 c
theorem CdAt.below{w w':World}{C:Nat}{v0 v1 v2 v3:Value}{c:Cd}(h:CdAt w C v0 v1 v2 v3 c)(k:Below w.heap.size w w'):CdAt w' C v0 v1 v2 v3 c:=⟨h.1.below k,h.2.below k⟩
structure CdOk(c:Cd):Prop where
 signL:c.sign.length<=140737488351232
 names:∀p∈c.sign,p.name.size<=140737488351232
 regsL:c.regs.length<=140737488351232
 slotsL:c.slots.length<=140737488351232
 listL:c.list.length<=140737488351232
 sbits:∀s∈c.slots,0<=s.bits/\s.bits<4294967296
 ibits:∀i∈c.list,0<=i.bits/\i.bits<4294967296
theorem Znh(n:Int)(k:Nat)(w:World):Calls prog 128 #[.int .i64 n,.int .i64 k] w fun e w'=>e=.returned (.bool (isPl n k))/\w'=w:=by
 unfold isPl;by_cases h:0<=n
 all_goals
  go_enter func128,ntmps128;exact Zdz
theorem Zup(n:Int)(w:World):Calls prog 129 #[.int .i64 n] w fun e w'=>e=.returned (.bool (Zls n))/\w'=w:=by
 unfold Zls;by_cases h:0<=n
 all_goals
  go_enter func129,ntmps129;exact Zdz
theorem Zwq(a:Int)(h0:0<=a)(h1:a<4294967296)(w:World):Calls prog 130 #[.int .u32 a] w fun e w'=>e=.returned (.bool (Zkn a))/\w'=w:=by
 have hc:Zkn a=(canon a==a):=by unfold Zkn canon;cases nan a<;>rw[Bool.eq_iff_iff]<;>simp
 rw[hc];have HK:Hid (∀w,Calls prog 101 #[.int .u32 a] w fun e w'=>e=.returned (.int .u32 (canon a))/\w'=w):=Zalr a h0 h1;clear hc;obtain⟨x,hx⟩:∃x,canon a=x:=⟨_,rfl⟩
 rw[hx]at HK ⊢;clear hx;go_enter func130,ntmps130;go_wp2_with(go_at_call 101;refine(HK.out _).mono ?_;rintro e w1 ⟨rfl,rfl⟩);go_ret;exact⟨rfl,rfl⟩
theorem Ztb(t:Ty)(p:Option Addr)(n c:Nat)(hn:n<=140737488351232)(w:World):Calls prog 90 #[tyV t,.slice p n c] w fun e w'=>e=.returned (.bool (Zil t n))/\Below w.heap.size w w':=by
 obtain⟨K,P⟩:=t;have HK:Hid (∀w,Calls prog 128 #[.int .i64 P,.int .i64 n] w fun e w'=>e=.returned (.bool (isPl P n))/\w'=w):=Znh P n;unfold Zil tyV;simp only;by_cases h1:K=1
 ·subst h1;rw[if_pos (Or.inl rfl)];exact Zep
 ·by_cases h2:K=2
  ·subst h2;rw[if_pos (Or.inr rfl)];exact Zep
  ·rw[if_neg (fun e=>e.elim h1 h2)];have h1':(K==1)=false:=by simpa using h1
   have h2':(K==2)=false:=by simpa using h2
   by_cases h3:K=3
   ·subst h3;rw[if_pos rfl];go_enter func90,ntmps90;exact Zfk
   ·rw[if_neg h3];have h3':(K==3)=false:=by simpa using h3
    clear h1 h2 h3;exact Zep
def slV(s:Sl):Value:=.agg #[.int .i64 s.ty.kind,.int .i64 s.ty.par,.bool s.keep,.int .u32 s.bits,.int .i64 s.int_]
theorem Zahc(s:Sl)(h0:0<=s.bits)(h1:s.bits<4294967296)(w:World):Calls prog 91 #[slV s] w fun e w'=>e=.returned (.bool (Znk s))/\Below w.heap.size w w':=by
 have HK:Hid (∀w,Calls prog 130 #[.int .u32 s.bits] w fun e w'=>e=.returned (.bool (Zkn s.bits))/\w'=w):=Zwq s.bits h0 h1;have HL:Hid (∀w,Calls prog 129 #[.int .i64 s.int_] w fun e w'=>e=.returned (.bool (Zls s.int_))/\w'=w):=Zup s.int_;obtain⟨⟨K,P⟩,Q,B,I⟩:=s;unfold Znk slV;simp only at HK HL h0 h1 ⊢;obtain⟨X,hX⟩:∃X,Zkn B=X:=⟨_,rfl⟩
 obtain⟨Y,hY⟩:∃Y,Zls I=Y:=⟨_,rfl⟩
 rw[hX]at HK ⊢;rw[hY]at HL ⊢;clear hX hY;by_cases h2:K=2
 ·subst h2;rw[if_pos rfl];cases hb:(B==0)
  all_goals
   go_enter func91,ntmps91;go_wp2_with(go_at_call 129;refine(HL.out _).mono ?_;rintro e w1 ⟨rfl,rfl⟩);go_ret;exact⟨Zhu (by simp[hb]),Zhq _ _⟩
 ·rw[if_neg h2];have h2':(K==2)=false:=by simpa using h2
  clear h2;cases hb:(I==0)
  all_goals
   go_enter func91,ntmps91;go_wp2_with(go_at_call 130;refine(HK.out _).mono ?_;rintro e w1 ⟨rfl,rfl⟩);go_ret;exact⟨Zhu (by simp[hb]),Zhq _ _⟩
theorem ty_eq(K P L Q:Int):decide ((⟨K,P⟩:Ty)=⟨L,Q⟩)=(K==L&&P==Q):=by
 rw[Bool.eq_iff_iff];simp
theorem Zajk(l:Int)(t m:Ty)(w:World):Calls prog 131 #[.int .i64 l,tyV t,tyV m] w fun e w'=>e=.returned (.bool (Zjk l t m))/\Below w.heap.size w w':=by
 obtain⟨K,P⟩:=t;obtain⟨L,Q⟩:=m;unfold Zjk tyV;simp only[ty_eq];by_cases h1:l=1
 ·subst h1;rw[if_pos rfl];go_enter func131,ntmps131;go_wp2;go_ret;exact Zcb
 rw[if_neg h1];by_cases h2:l=2
 ·subst h2;rw[if_pos rfl];clear h1;go_enter func131,ntmps131;go_wp2;go_ret;exact Zcb
 rw[if_neg h2];by_cases h3:l=3
 ·subst h3;rw[if_pos rfl];clear h1 h2;go_enter func131,ntmps131;go_wp2;go_ret;exact Zcb
 rw[if_neg h3];by_cases h4:l=4
 ·subst h4;rw[if_pos rfl];clear h1 h2 h3;cases hk:(K==1)
  all_goals
   go_enter func131,ntmps131;go_wp2;go_ret;exact⟨Zhu (by simp[hk]),bel (Zhq _ _) (Zhq _ _)⟩
 rw[if_neg h4];by_cases h5:l=5
 ·subst h5;rw[if_pos rfl];clear h1 h2 h3 h4;cases hk:(K==1)<;>cases hl:(K==L)<;>cases hq:(P==Q)
  all_goals
   go_enter func131,ntmps131;go_wp2;go_ret;exact⟨Zhu (by simp[hk,hl,hq]),bel (Zhq _ _) (Zhq _ _)⟩
 rw[if_neg h5];have h1':(l==1)=false:=by simpa using h1
 have h2':(l==2)=false:=by simpa using h2
 have h3':(l==3)=false:=by simpa using h3
 have h4':(l==4)=false:=by simpa using h4
 have h5':(l==5)=false:=by simpa using h5
 clear h1 h2 h3 h4 h5;go_enter func131,ntmps131;go_wp2
 all_goals
  go_ret;exact⟨Zhu (by simp[*]),bel (Zhq _ _) (Zhq _ _)⟩
theorem Zoz{l:List Ty}{n:Int}{k:Nat}(h:n=(k:Int))(hk:k<l.length):regT l n=l[k]:=by
 subst h;unfold regT;rw[if_pos (Zld.2 ⟨oM,oM⟩),Int.toNat_natCast,List.getElem?_eq_getElem hk];rfl
theorem Zma{n:Int}{k:Nat}(h:isPl n k=true):∃m:Nat,n=(m:Int)/\m<k:=by
 obtain⟨h0,h1⟩:=Zld.1 h;exact⟨n.toNat,oM,oM⟩
theorem Zmg(C:Nat)(v0 v1 v2 v3:Value)(c:Cd)(hk:CdOk c)(l n:Int)(m:Ty)(w:World)(hc:CdAt w C v0 v1 v2 v3 c):
 Calls prog 94 #[.pointer (some ⟨C,0,none⟩),.int .i64 l,.int .i64 n,tyV m] w fun e w'=>e=.returned (.bool (Zhw c.regs l n m))/\Below w.heap.size w w':=by
 unfold Zhw;by_cases h0:l=0
 ·subst h0;rw[if_pos rfl];unfold tyV;go_enter func94,ntmps94;go_wp2;go_ret;exact⟨rfl,Zhq _ _⟩
 rw[if_neg h0];have h0':(l==0)=false:=by simpa using h0
 clear h0;have HB:=hk.regsL;have K1:=Znh n c.regs.length;obtain⟨hcc,hcv⟩:=hc;have c1:=hcc.at 1 rfl;rw[Nat.zero_add]at c1;have hr:=hcv.regs;obtain⟨p,q,rfl,hrr⟩:=hcv.regs;have HN:Hid (c.regs.length=c.regs.length):=rfl;obtain⟨X,hX⟩:∃X,isPl n c.regs.length=X:=⟨_,rfl⟩
 simp only[hX]at K1;rw[hX];have hC:=Zhr c1;simp only at hC;cases X
 ·clear hr hrr hcc hcv;obtain⟨N,hN⟩:∃N,c.regs.length=N:=⟨_,rfl⟩
  rw[hN]at K1 c1 HB;have HK:Hid (∀w,Calls prog 128 #[.int .i64 n,.int .i64 N] w fun e w'=>e=.returned (.bool false)/\w'=w):=K1;clear hN K1 hX HN;obtain⟨A,B⟩:=m;unfold tyV;go_enter func94,ntmps94;go_wp2;have hC':C≠w.heap.size:=oM;refine rG (fun v=>v.cell? ⟨C,1,none⟩=some (.slice p N q)) fun hHeld=>?_;exact Zcj
 ·obtain⟨k,hnk,hkl⟩:=Zma hX;rw[Zoz hnk hkl];have hti:c.regs[k]=c.regs[k]:=rfl;obtain⟨b,o,hp,hx⟩:=hr.at hkl;subst hp;subst hnk;have x0:=hx.at 0 rfl;have x1:=hx.at 1 rfl;rw[Nat.add_zero]at x0;have hbl:=Zhr x0;simp only at hbl;have K2:=Zajk l c.regs[k] m;obtain⟨T,hT⟩:∃T,c.regs[k]=T:=⟨_,rfl⟩
  rw[hT]at x0 x1 K2 ⊢;obtain⟨N,hN⟩:∃N,c.regs.length=N:=⟨_,rfl⟩
  rw[hN]at K1 c1 HB hkl;have HK:Hid (∀w,Calls prog 128 #[.int .i64 (k:Int),.int .i64 N] w fun e w'=>e=.returned (.bool true)/\w'=w):=K1;clear hN K1 hX HN hr hrr hcc hcv hx hti hT;obtain⟨A,B⟩:=m;obtain⟨D,E⟩:=T;unfold tyV at K2 ⊢;simp only at x0 x1 K2 ⊢;obtain⟨Y,hY⟩:∃Y,Zjk l ⟨D,E⟩ ⟨A,B⟩=Y:=⟨_,rfl⟩
  rw[hY]at K2 ⊢;have HM:Hid (∀w,Calls prog 131 #[.int .i64 l,.agg #[.int .i64 D,.int .i64 E],.agg #[.int .i64 A,.int .i64 B]] w fun e w'=>e=.returned (.bool Y)/\Below w.heap.size w w'):=K2;clear K2 hY;have i1:(0:Int)<=(k:Int):=oM;have i2:(k:Int)<(N:Int):=oM;have hC':C≠w.heap.size:=oM;have hb':b≠w.heap.size:=oM;have HC:Hid (∀v,Below (w.alloc (.cells #[.int .i64 A,.int .i64 B] 69)).heap.size (w.alloc (.cells #[.int .i64 A,.int .i64 B] 69)) v->v.cell? ⟨C,1,none⟩=some (.slice (some ⟨b,o,none⟩) N q)/\v.cell? ⟨b,o+k*2,none⟩=some (.int .i64 D)/\v.cell? ⟨b,o+k*2+1,none⟩=some (.int .i64 E)/\v.cell? ⟨w.heap.size,0,none⟩=some (.int .i64 A)/\v.cell? ⟨w.heap.size,1,none⟩=some (.int .i64 B)):=
   fun v hv=>⟨kc hv (kc (Zhq _ _) c1),kc hv (kc (Zhq _ _) x0),kc hv (kc (Zhq _ _) x1),kc hv sG,kc hv sG⟩
  go_enter func94,ntmps94;go_wp2;refine rG (fun v=>v.cell? ⟨C,1,none⟩=some (.slice (some ⟨b,o,none⟩) N q)/\v.cell? ⟨b,o+k*2,none⟩=some (.int .i64 D)/\v.cell? ⟨b,o+k*2+1,none⟩=some (.int .i64 E)/\v.cell? ⟨w.heap.size,0,none⟩=some (.int .i64 A)/\v.cell? ⟨w.heap.size,1,none⟩=some (.int .i64 B)) fun hHeld=>?_;refine Tf 0 1 2 3 4 5 ?_;clear hHeld;refine ry1 6 fun K hK=>?_;go_simp;(go_at_call 128;refine(HK.out _).mono ?_;rintro e w1 ⟨rfl,rfl⟩);try(go_wp2_with fail)
  refine okK hK fun hHeld=>?_;clear hK K;refine Tf 7 8 9 10 11 12 ?_;refine Tc 13 14 15 ?_;refine tkT 16 ?_;clear hHeld;refine ry1 17 fun K hK=>?_;go_simp;(go_at_call 131;refine(HM.out _).mono ?_;rintro e w1 ⟨rfl,hb1⟩;have HB1:=bel (Zhs _) hb1;obtain⟨y0,y1,y2,y3,y4⟩:=HC.out w1 HB1);try(go_wp2_with fail)
  refine okK hK fun hHeld=>?_;clear hK K;refine Tb 18 19 ?_;refine wpAnyH_done kR ?_ _;go_wp2;go_ret;exact⟨sM,bel (Zhq _ _) HB1⟩
theorem Zzz(C:Nat)(p:Option Addr)(N q:Nat)(l:List Ty)(b o:Nat)(i:Ins)(r:Rw)(w:World)(hN:l.length=N)(c1:w.cell? ⟨C,1,none⟩=some (.slice p N q))(hr:RowG 2 tyC w (.slice p N q) l)(hB:N<=140737488351232)(hi:Zhx w b o (inC i)):
 Calls prog 92 #[.pointer (some ⟨C,0,none⟩),.pointer (some ⟨b,o,none⟩),rwV r] w fun e w'=>e=.returned (tyV (Zij l i r))/\Below w.heap.size w w':=by
 unfold Zij Znl;have e1:=hi.at 1 rfl;have e2:=hi.at 2 rfl;have hC:=Zhr c1;have hb:=Zhr e1;simp only at hC hb;have n1:C≠w.heap.size:=oM;have n2:C≠w.heap.size+1:=oM;have n3:b≠w.heap.size:=oM;have n4:b≠w.heap.size+1:=oM;clear hi hC hb;obtain⟨D,A,B,X,Y⟩:=r;unfold rwV;simp only;have HA:Hid (∀a v,w.cell? a=some v->((w.alloc (.cells #[.int .i64 D,.int .i64 A,.int .i64 B,.int .i64 X,.int .i64 Y] 134)).alloc (.cells #[.int .i64 0,.int .i64 0] 69)).cell? a=some v):=fun a v h=>kc (Zhq _ _) (kc (Zhq _ _) h);obtain⟨x,hx⟩:∃x,(if D=0 then i.a else i.d)=x:=⟨_,rfl⟩
 rw[hx];have K1:=Znh x N;have HX:Hid ((D=0/\x=i.a)\/(D≠0/\x=i.d)):=by
  show _\/_;by_cases h:D=0
  ·rw[if_pos h]at hx;exact .inl ⟨h,hx.symm⟩
  ·rw[if_neg h]at hx;exact .inr ⟨h,hx.symm⟩
 clear hx;obtain⟨P,hP⟩:∃P,isPl x N=P:=⟨_,rfl⟩
 simp only[hP]at K1;have HK:Hid (∀w,Calls prog 128 #[.int .i64 x,.int .i64 N] w fun e w'=>e=.returned (.bool P)/\w'=w):=K1;clear K1;cases P
 ·have HT:Hid (regT l x=⟨0,0⟩):=by show _=_;unfold regT;rw[hN,hP];rfl
  clear hP hr;rcases HX.out with⟨rfl,rfl⟩|⟨hD,rfl⟩
  ·clear HX;have f1:=HA.out _ _ e1;have f2:=HA.out _ _ e2;have f3:=HA.out _ _ c1;exact Zbn
  ·clear HX;have hD':(D==0)=false:=by simpa using hD
   clear hD;have f1:=HA.out _ _ e1;have f2:=HA.out _ _ e2;have f3:=HA.out _ _ c1;exact Zbn
 ·obtain⟨k,hxk,hk⟩:=Zma hP;have hkl:k<l.length:=oM;have HT:Hid (regT l x=l[k]):=Zoz hxk hkl;obtain⟨g,u,hp,hx⟩:=hr.at hkl;subst hp;have x0:=hx.at 0 rfl;have x1:=hx.at 1 rfl;rw[Nat.add_zero]at x0;obtain⟨T,hT⟩:∃T,l[k]=T:=⟨_,rfl⟩
  rw[hT]at x0 x1 HT;obtain⟨E,G⟩:=T;simp only at x0 x1;have hg:=Zhr x0;simp only at hg;have n5:g≠w.heap.size:=oM;have n6:g≠w.heap.size+1:=oM;have i1:(0:Int)<=(k:Int):=oM;have i2:(k:Int)<(N:Int):=oM;clear hP hr hx hT hg hN hkl;rcases HX.out with⟨rfl,hv⟩|⟨hD,hv⟩
  ·clear HX;rw[←hv,hxk]at e2;rw[hxk]at HK HT ⊢;clear hv hxk;have f1:=HA.out _ _ e1;have f2:=HA.out _ _ e2;have f3:=HA.out _ _ c1;have f4:=HA.out _ _ x0;have f5:=HA.out _ _ x1;exact Zbn
  ·clear HX;have hD':(D==0)=false:=by simpa using hD
   rw[←hv,hxk]at e1;rw[hxk]at HK HT ⊢;clear hD hv hxk;have f1:=HA.out _ _ e1;have f2:=HA.out _ _ e2;have f3:=HA.out _ _ c1;have f4:=HA.out _ _ x0;have f5:=HA.out _ _ x1;exact Zbn
theorem Zty(C:Nat)(v0 v1 v2 v3:Value)(c:Cd)(hk:CdOk c)(b o:Nat)(i:Ins)(r:Rw)(w:World)(hc:CdAt w C v0 v1 v2 v3 c)(hi:Zhx w b o (inC i)):
 Calls prog 92 #[.pointer (some ⟨C,0,none⟩),.pointer (some ⟨b,o,none⟩),rwV r] w fun e w'=>e=.returned (tyV (Zij c.regs i r))/\Below w.heap.size w w':=by
 obtain⟨hcc,hcv⟩:=hc;have c1:=hcc.at 1 rfl;rw[Nat.zero_add]at c1;have hr:=hcv.regs;obtain⟨p,q,rfl,hrr⟩:=hcv.regs;exact Zzz C p _ q c.regs b o i r w rfl c1 hr hk.regsL hi
def V(p k:Nat):Nat:=if k<2^p then k else(2^p+k%2^p)*2^(k/2^p-1)
theorem V_at(p t k:Nat)(h:k<=2*2^p)(h':t=0\/2^p<=k):V p (t*2^p+k)=k*2^t:=by
 unfold V;have hB:0<2^p:=Nat.two_pow_pos p;generalize 2^p=B at *;rcases Nat.lt_or_ge k B with c|c
 ·have:t=0:=oM;subst this;simp[c]
 ·have hge:¬ (t*B+k<B):=by have:=Nat.zero_le (t*B);omega
  rw[if_neg hge];rcases Nat.lt_or_ge k (2*B)with c2|c2
  ·have e1:(t*B+k)%B=k-B:=by
    have:t*B+k=(k-B)+B*(t+1):=by rw[Nat.mul_add,Nat.mul_comm];omega
    rw[this,Nat.add_mul_mod_self_left,Nat.mod_eq_of_lt oM]
   have e2:(t*B+k)/B=t+1:=by
    have:t*B+k=(k-B)+B*(t+1):=by rw[Nat.mul_add,Nat.mul_comm];omega
    rw[this,Nat.add_mul_div_left _ _ hB,Nat.div_eq_of_lt oM];omega
   rw[e1,e2,show B+(k-B)=k by omega,Nat.add_sub_cancel]
  ·have hk:k=2*B:=oM;subst hk;have e0:t*B+2*B=0+B*(t+2):=by rw[Nat.mul_add,Nat.mul_comm];omega
   rw[e0,Nat.add_mul_mod_self_left,Nat.add_mul_div_left _ _ hB,Nat.zero_mod,Nat.zero_div];rw[show 0+(t+2)-1=t+1 by omega,Nat.pow_succ]
   grind
theorem Zsi(p r:Nat):∃t k,r=t*2^p+k/\k<2*2^p/\(t=0\/2^p<=k)/\t=r/2^p-1:=by
 have hB:0<2^p:=Nat.two_pow_pos p;generalize 2^p=B at *;have hd:=Nat.div_add_mod r B;have hm:=Nat.mod_lt r hB;rcases Nat.lt_or_ge r B with c|c
 ·exact⟨0,r,oM,oM,Or.inl rfl,by rw[Nat.div_eq_of_lt c]⟩
 ·have:1<=r/B:=(Nat.le_div_iff_mul_le hB).2 oM;obtain⟨t,ht⟩:∃t,r/B=t+1:=⟨r/B-1,oM⟩
  refine⟨t,B+r%B,?_,oM,Or.inr oM,oM⟩;rw[ht,Nat.mul_add,Nat.mul_comm]at hd;omega
theorem Zry(p r:Nat):V p (r+1)=V p r+2^(r/2^p-1):=by
 obtain⟨t,k,hr,hk,h,ht⟩:=Zsi p r;have e1:V p r=k*2^t:=by rw[hr];exact V_at p t k oM h
 have e2:V p (r+1)=(k+1)*2^t:=by rw[hr,Nat.add_assoc];exact V_at p t (k+1) oM oM
 rw[e1,e2,←ht,Nat.add_mul,Nat.one_mul]
theorem Ztg(p r:Nat):V p r<V p (r+1):=by
 rw[Zry];have:=Nat.two_pow_pos (r/2^p-1);omega
theorem V_lt(p:Nat){r s:Nat}(h:r<s):V p r<V p s:=by
 induction s with
 |zero=>omega
 |succ s ih=>
  rcases Nat.lt_or_ge r s with c|c
  ·exact Nat.lt_trans (ih c) (Ztg p s)
  ·have:r=s:=oM;subst this;exact Ztg p r
theorem V_le(p:Nat){r s:Nat}(h:r<=s):V p r<=V p s:=by
 rcases Nat.lt_or_eq_of_le h with c|c
 ·exact Nat.le_of_lt (V_lt p c)
 ·rw[c];exact Nat.le_refl _
theorem Zabq(p r s:Nat):V p r<V p s↔r<s:=by
 constructor
 ·intro h;rcases Nat.lt_or_ge r s with c|c
  ·exact c
  ·have:=V_le p c;omega
 ·exact V_lt p
theorem V_inj(p:Nat){r s:Nat}(h:V p r=V p s):r=s:=by
 rcases Nat.lt_trichotomy r s with c|c|c
 ·have:=V_lt p c;omega
 ·exact c
 ·have:=V_lt p c;omega
theorem Zpo(p:Nat):V p 0=0:=by
 have hB:0<2^p:=Nat.two_pow_pos p;simp[V,hB]
structure Near(p n d r:Nat):Prop where
 up:2*n<=(V p r+V p (r+1))*d
 ue:2*n=(V p r+V p (r+1))*d->r%2=0
 dn:∀q,r=q+1->(V p q+V p r)*d<=2*n
 de:∀q,r=q+1->(V p q+V p r)*d=2*n->r%2=0
theorem Near.mono{p n d r n' d' r':Nat}(h:Near p n d r)(h':Near p n' d' r')(hd:0<d)(hd':0<d')(hn:n*d'<=n'*d):r<=r':=by
 rcases Nat.lt_or_ge r' r with c|c
 ·exfalso;obtain⟨q,hq⟩:∃q,r=q+1:=⟨r-1,oM⟩
  have a1:=h.dn q hq;have a2:=h'.up;have b1:V p r'+V p (r'+1)<=V p q+V p r:=by
   have:=V_le p (show r'<=q by omega);have:=V_le p (show r'+1<=r by omega);omega
  have k1:(V p q+V p r)*(d*d')<=2*n*d':=by
   rw[←Nat.mul_assoc];exact Nat.mul_le_mul_right _ a1
  have k2:2*n'*d<=(V p r'+V p (r'+1))*(d*d'):=by
   have:=Nat.mul_le_mul_right d a2;rw[Nat.mul_comm d d',←Nat.mul_assoc];exact this
  have k3:2*n*d'<=2*n'*d:=by
   rw[Nat.mul_assoc,Nat.mul_assoc];exact Nat.mul_le_mul_left _ hn
  have k4:(V p r'+V p (r'+1))*(d*d')<=(V p q+V p r)*(d*d'):=Nat.mul_le_mul_right _ b1;have hdd:0<d*d':=Nat.mul_pos hd hd';have e4:(V p r'+V p (r'+1))*(d*d')=(V p q+V p r)*(d*d'):=oM;have e5:=Nat.eq_of_mul_eq_mul_right hdd e4;have hqr:r'=q:=by
   rcases Nat.lt_or_ge r' q with c2|c2
   ·have:=V_lt p c2;have:=V_le p (show r'+1<=r by omega);omega
   ·omega
  have e6:(V p q+V p r)*d*d'=2*n*d':=by rw[Nat.mul_assoc];omega
  have e7:2*n'*d=(V p r'+V p (r'+1))*d'*d:=by rw[Nat.mul_assoc _ d' d,Nat.mul_comm d' d];omega
  have p1:=h.de q hq (Nat.eq_of_mul_eq_mul_right hd' e6);have p2:=h'.ue (Nat.eq_of_mul_eq_mul_right hd e7);omega
 ·exact c
theorem Near.unique{p n d r n' d' r':Nat}(h:Near p n d r)(h':Near p n' d' r')(hd:0<d)(hd':0<d')(hn:n*d'=n'*d):r=r':=
 Nat.le_antisymm (h.mono h' hd hd' oM) (h'.mono h hd' hd oM)
theorem Zwh(p r d:Nat)(hd:0<d):Near p (V p r*d) d r:=by
 have s1:=Ztg p r;refine⟨?_,?_,?_,?_⟩
 ·rw[←Nat.mul_assoc];exact Nat.mul_le_mul_right _ oM
 ·intro h;rw[←Nat.mul_assoc]at h;have:=Nat.eq_of_mul_eq_mul_right hd h;omega
 ·intro q hq;rw[←Nat.mul_assoc];have:=V_lt p (show q<r by omega);exact Nat.mul_le_mul_right _ oM
 ·intro q hq h;rw[←Nat.mul_assoc]at h;have:=Nat.eq_of_mul_eq_mul_right hd h;have:=V_lt p (show q<r by omega);omega
structure Cut(n d k t:Nat):Prop where
 up:2*n<=(2*k+1)*2^t*d
 ue:2*n=(2*k+1)*2^t*d->k%2=0
 dn:2*k*2^t*d<=2*n+2^t*d
 de:2*k*2^t*d=2*n+2^t*d->k%2=0
theorem Cut.near{p n d k t:Nat}(h:Cut n d k t)(hd:0<d)(hp:1<=p)(hr:t=0\/2^p*2^t*d<=n)(hu:n<2*2^p*2^t*d):
 Near p n d (t*2^p+k)/\k<=2*2^p/\(t=0\/2^p<=k):=by
 have hT:0<2^t:=Nat.two_pow_pos t;have hB2:2^p%2=0:=by
  obtain⟨q,rfl⟩:∃q,p=q+1:=⟨p-1,oM⟩
  rw[Nat.pow_succ];omega
 have hB:0<2^p:=Nat.two_pow_pos p;have hTd:0<2^t*d:=Nat.mul_pos hT hd;have up:=h.up;have ue:=h.ue;have dn:=h.dn;have de:=h.de;simp only[Nat.mul_assoc]at up ue dn de hr hu;have kle:k<=2*2^p:=by
  rcases Nat.lt_or_ge (2*2^p) k with c|c
  ·exfalso;have:(2*(2*2^p)+2)*(2^t*d)<=2*k*(2^t*d):=Nat.mul_le_mul_right _ oM;rw[Nat.mul_assoc 2 k]at this;rw[Nat.add_mul]at this;generalize 2^t*d=u at *;simp only[Nat.mul_assoc]at this;omega
  ·exact c
 have kge:t=0\/2^p<=k:=by
  rcases hr with c|c
  ·exact Or.inl c
  ·right;rcases Nat.lt_or_ge k (2^p)with c2|c2
   ·exfalso;have:(2*k+1)*(2^t*d)<=(2*2^p-1)*(2^t*d):=Nat.mul_le_mul_right _ oM;rw[Nat.sub_mul]at this;generalize 2^t*d=u at *;simp only[Nat.mul_assoc]at this;have h3:0<2^p*u:=Nat.mul_pos hB hTd;omega
   ·exact c2
 refine⟨?_,kle,kge⟩;have par:(t*2^p+k)%2=k%2:=by
  have:(t*2^p)%2=0:=by rw[Nat.mul_mod,hB2,Nat.mul_zero,Nat.zero_mod]
  omega
 have vr:V p (t*2^p+k)=k*2^t:=V_at p t k kle kge;have vs:=Zry p (t*2^p+k);have sge:2^t<=2^((t*2^p+k)/2^p-1):=by
  exact Zes
 have seq:k<2*2^p->V p (t*2^p+k+1)=(k+1)*2^t:=by
  intro c;rw[Nat.add_assoc];exact V_at p t (k+1) oM oM
 have vs2:(k+1)*2^t<=V p (t*2^p+k+1):=by rw[vs,vr,Nat.add_mul];omega
 have upper:(2*k+1)*(2^t*d)<=(V p (t*2^p+k)+V p (t*2^p+k+1))*d:=by
  rw[←Nat.mul_assoc];apply Nat.mul_le_mul_right;rw[vr];have:(2*k+1)*2^t=k*2^t+(k+1)*2^t:=by rw[←Nat.add_mul];congr 1;omega
  omega
 refine⟨oM,?_,?_,?_⟩
 ·intro e;rw[par];exact ue oM
 ·intro q hq;have hk0:k≠0:=by
   intro k0;subst k0;rcases kge with c|c
   ·subst c;omega
   ·omega
  obtain⟨j,rfl⟩:∃j,k=j+1:=⟨k-1,oM⟩
  have hqj:q=t*2^p+j:=oM;rcases kge with c|c
  ·subst c;have:V p q=j*2^0:=by rw[hqj];exact V_at p 0 j oM (Or.inl rfl)
   rw[vr,this];exact Zcz
  ·rcases Nat.lt_or_ge j (2^p)with c2|c2
   ·--the lowest of a binade:the number is not below
    have hk:j+1=2^p:=oM;rcases hr with c3|c3
    ·subst c3;have:V p q=j*2^0:=by rw[hqj];exact V_at p 0 j oM (Or.inl rfl)
     rw[vr,this];exact Zcz
    ·have:=V_lt p (show q<t*2^p+(j+1) by omega);have l:(V p q+V p (t*2^p+(j+1)))*d<=(2*(2^p*2^t))*d:=by
      apply Nat.mul_le_mul_right;rw[vr,hk]at *;omega
     simp only[Nat.mul_assoc]at l;omega
   ·have:V p q=j*2^t:=by rw[hqj];exact V_at p t j oM (Or.inr c2)
    rw[vr,this];exact Zfl
 ·intro q hq e;rw[par];have hk0:k≠0:=by
   intro k0;subst k0;rcases kge with c|c
   ·subst c;omega
   ·omega
  obtain⟨j,rfl⟩:∃j,k=j+1:=⟨k-1,oM⟩
  have hqj:q=t*2^p+j:=oM;rcases Nat.lt_or_ge j (2^p)with c2|c2
  ·rcases hr with c3|c3
   ·subst c3;have:V p q=j*2^0:=by rw[hqj];exact V_at p 0 j oM (Or.inl rfl)
    rw[vr,this]at e;apply de;exact Zcz
   ·rcases kge with c4|c4
    ·subst c4;have:V p q=j*2^0:=by rw[hqj];exact V_at p 0 j oM (Or.inl rfl)
     rw[vr,this]at e;apply de;exact Zcz
    ·exfalso;have hk:j+1=2^p:=oM;have:=V_lt p (show q<t*2^p+(j+1) by omega);have l:(V p q+V p (t*2^p+(j+1))+1)*d<=(2*(2^p*2^t))*d:=by
      apply Nat.mul_le_mul_right;rw[vr,hk]at *;omega
     rw[Nat.add_mul]at l;simp only[Nat.mul_assoc]at l;omega
  ·have:V p q=j*2^t:=by rw[hqj];exact V_at p t j oM (Or.inr c2)
   rw[vr,this]at e;apply de;exact Zfl
theorem Cut.scale{n k u:Nat}(h:Cut n 1 k u)(b s t:Nat)(e:u+b=t+s):Cut (n*2^b) (2^s) k t:=by
 have up:=h.up;have ue:=h.ue;have dn:=h.dn;have de:=h.de;simp only[Nat.mul_one]at up ue dn de;have hb:0<2^b:=Nat.two_pow_pos b;have ets:∀x:Nat,x*2^t*2^s=x*2^u*2^b:=by
  intro x;rw[Nat.mul_assoc,Nat.mul_assoc,←Nat.pow_add,←Nat.pow_add,e]
 have ets1:2^t*2^s=2^u*2^b:=by rw[←Nat.pow_add,←Nat.pow_add,e]
 refine⟨?_,?_,?_,?_⟩
 ·rw[ets,←Nat.mul_assoc];exact Nat.mul_le_mul_right _ up
 ·rw[ets,←Nat.mul_assoc];intro h;exact ue (Nat.eq_of_mul_eq_mul_right hb h)
 ·rw[ets,ets1,←Nat.mul_assoc,←Nat.add_mul];exact Nat.mul_le_mul_right _ dn
 ·rw[ets,ets1,←Nat.mul_assoc,←Nat.add_mul];intro h;exact de (Nat.eq_of_mul_eq_mul_right hb h)
theorem cut_of{n k t G:Nat}(hG:2^t=G)(up:2*n<=(2*k+1)*G)(ue:2*n=(2*k+1)*G->k%2=0)(dn:2*k*G<=2*n+G)(de:2*k*G=2*n+G->k%2=0):Cut n 1 k t:=by
 subst hG;exact⟨by simpa using up,by simpa using ue,by simpa using dn,by simpa using de⟩
theorem Zaax(neg:Bool)(n drop:Nat):Cut n 1 (Ieee.Toward.even.cut neg n drop) drop:=by
 unfold Ieee.Toward.cut;simp only[Nat.one_shiftLeft];rcases Nat.lt_or_ge (n.log2+2) drop with c|c
 ·rw[Nat.min_eq_right oM];have h1:n<2^(n.log2+1):=Nat.lt_log2_self;have h2:2^(n.log2+2)=2*2^(n.log2+1):=by rw[Nat.pow_succ];omega
  have h3:2^(n.log2+2)<=2^drop:=Nat.pow_le_pow_right oM oM;rw[Nat.div_eq_of_lt oM,Nat.mod_eq_of_lt oM];have e1:(decide (2^(n.log2+2)<2*n)||2^(n.log2+2)==2*n&&0%2==1)=false:=by
   have:¬ (2^(n.log2+2)<2*n):=oM;simp[this]
  rw[e1];refine⟨?_,?_,?_,?_⟩<;>simp<;>omega
 ·rw[Nat.min_eq_left oM];have hG:0<2^drop:=Nat.two_pow_pos drop;have h1:=Nat.div_add_mod n (2^drop);have h2:=Nat.mod_lt n hG;generalize hq:n/2^drop=q at *;generalize hr:n%2^drop=r at *;generalize hGd:2^drop=G at *;clear hq hr;have h3:2*n=2*(q*G)+2*r:=by rw[Nat.mul_comm q G];omega
  have x0:(2*q+1)*G=2*(q*G)+G:=by rw[Nat.add_mul,Nat.mul_assoc];omega
  have x1:(2*(q+1)+1)*G=2*(q*G)+3*G:=by rw[show 2*(q+1)+1=2*q+3 by omega,Nat.add_mul,Nat.mul_assoc]
  have x2:2*q*G=2*(q*G):=Nat.mul_assoc ..;have x3:2*(q+1)*G=2*(q*G)+2*G:=by rw[show 2*(q+1)=2*q+2 by omega,Nat.add_mul,Nat.mul_assoc]
  refine cut_of hGd ?_ ?_ ?_ ?_<;>clear hGd
  all_goals(
   by_cases c1:G<2*r
   ·have e1:(decide (G<2*r)||G==2*r&&q%2==1)=true:=by simp[c1]
    rw[e1];simp only[Bool.toNat_true];omega
   ·by_cases c2:G=2*r
    ·by_cases c3:q%2=1
     ·have e1:(decide (G<2*r)||G==2*r&&q%2==1)=true:=by simp[c2,c3]
      rw[e1];simp only[Bool.toNat_true];omega
     ·have e1:(decide (G<2*r)||G==2*r&&q%2==1)=false:=by simp[c2];omega
      rw[e1];simp only[Bool.toNat_false,Nat.add_zero];omega
    ·have e1:(decide (G<2*r)||G==2*r&&q%2==1)=false:=by simp[c1,c2]
     rw[e1]
     simp only[Bool.toNat_false,Nat.add_zero];omega)
def Zkg(p:Nat)(L:Int)(mag:Nat)(place:Int):Nat:=
 if mag=0 then 0 else
 (max (place+mag.log2-p) L-L).toNat*2^p+Ieee.Toward.even.cut false (mag<<<(place-max (place+mag.log2-p) L).toNat) (max (place+mag.log2-p) L-place).toNat
theorem Zjw(f:Ieee.Format)(neg:Bool)(mag:Nat)(place:Int):
 f.nearest neg mag place=f.word neg (min (Zkg f.fractionBits f.leastPlace mag place) f.infRung):=by
 unfold Ieee.Format.nearest Zkg;by_cases h:mag=0
 ·rw[if_pos h,if_pos h,Nat.zero_min]
 ·rw[if_neg h,if_neg h];rfl
theorem Zwv(p:Nat)(L:Int)(mag:Nat)(place:Int)(h0:mag≠0):
 ∃t k j u:Nat,Zkg p L mag place=t*2^p+k/\Cut (mag*2^j) 1 k u/\(L+t+j:Int)=place+u/\(t=0\/(p+u:Int)=mag.log2+j)/\(mag.log2+j:Int)<=p+u/\(j=0\/u=0):=by
 unfold Zkg;rw[if_neg h0];generalize hl:max (place+mag.log2-p) L=last;have hL:L<=last:=oM;have hq:place+mag.log2-p<=last:=oM;have hor:last=L\/last=place+mag.log2-p:=oM;rw[Nat.shiftLeft_eq];exact⟨(last-L).toNat,_,(place-last).toNat,(last-place).toNat,rfl,Zaax _ _ _,oM,oM,oM,oM⟩
theorem Znj(p:Nat)(L:Int)(mag:Nat)(place:Int)(hp:1<=p)(a s:Nat)(h:(a:Int)=place-L+s):
 Near p (mag*2^a) (2^s) (Zkg p L mag place):=by
 by_cases h0:mag=0
 ·subst h0;have:Zkg p L 0 place=0:=by simp[Zkg]
  rw[this];have:=Zwh p 0 (2^s) (Nat.two_pow_pos s);rw[Zpo]at this;simpa using this
 ·obtain⟨t,k,j,u,e,hc,e1,e2,e3,e4⟩:=Zwv p L mag place h0;rw[e];have hb:j<=a+u:=oM;have hlo:2^mag.log2<=mag:=Nat.log2_self_le h0;have hhi:mag<2^(mag.log2+1):=Nat.lt_log2_self;have hcs:Cut (mag*2^a) (2^s) k t:=by
   have:=hc.scale (a-j) s t oM;rwa[Nat.mul_assoc,←Nat.pow_add,show j+(a-j)=a by omega]at this
  refine(hcs.near (Nat.two_pow_pos s) hp ?_ ?_).1
  ·rcases e2 with c|c
   ·exact Or.inl c
   ·right;rw[←Nat.pow_add,←Nat.pow_add,show p+t+s=mag.log2+a by omega,Nat.pow_add];exact Nat.mul_le_mul_right _ hlo
  ·have:2*2^p*2^t*2^s=2^(p+t+s+1):=by
    rw[Nat.pow_succ,Nat.pow_add,Nat.pow_add,Nat.mul_comm _ 2];simp only[Nat.mul_assoc]
   rw[this]
   calc mag*2^a<2^(mag.log2+1)*2^a:=Nat.mul_lt_mul_of_pos_right hhi (Nat.two_pow_pos a)
    _=2^(mag.log2+1+a):=(Nat.pow_add ..).symm
    _<=2^(p+t+s+1):=Nat.pow_le_pow_right oM oM
structure Pos where
 le:Nat->Prop
 lt:Nat->Prop
 a1:∀c,lt c->le c
 a2:∀c c',c<c'->le c'->lt c
theorem Pos.le_mono(X:Pos){c c':Nat}(h:c<=c')(k:X.le c'):X.le c:=by
 rcases Nat.lt_or_eq_of_le h with e|e
 ·exact X.a1 _ (X.a2 _ _ e k)
 ·rw[e];exact k
structure Zrh(p:Nat)(X:Pos)(r:Nat):Prop where
 up:¬X.lt (V p r+V p (r+1))
 ue:X.le (V p r+V p (r+1))->r%2=0
 dn:∀q,r=q+1->X.le (V p q+V p r)
 de:∀q,r=q+1->¬X.lt (V p q+V p r)->r%2=0
theorem Zrh.mono{p:Nat}{X Y:Pos}{r r':Nat}(h:Zrh p X r)(h':Zrh p Y r')(hl:∀c,X.lt c->Y.lt c)(hle:∀c,X.le c->Y.le c):r<=r':=by
 rcases Nat.lt_or_ge r' r with c|c
 ·exfalso;obtain⟨q,hq⟩:∃q,r=q+1:=⟨r-1,oM⟩
  have a1:=h.dn q hq;have a2:=h'.up;rcases Nat.lt_or_ge r' q with c2|c2
  ·have:V p r'+V p (r'+1)<V p q+V p r:=by
    have:=V_lt p c2;have:=V_le p (show r'+1<=r by omega);omega
   exact a2 (Y.a2 _ _ this (hle _ a1))
  ·have e:r'=q:=oM;subst e;subst hq;have e1:=h'.ue (hle _ a1);have e2:=h.de r' rfl (fun k=>a2 (hl _ k));omega
 ·exact c
structure PCut(X:Pos)(k t:Nat):Prop where
 up:¬X.lt ((2*k+1)*2^t)
 ue:X.le ((2*k+1)*2^t)->k%2=0
 dn:∀j,k=j+1->X.le ((2*j+1)*2^t)
 de:∀j,k=j+1->¬X.lt ((2*j+1)*2^t)->k%2=0
theorem PCut.near{p:Nat}{X:Pos}{k t:Nat}(h:PCut X k t)(hp:1<=p)(hr:t=0\/X.le (2*(2^p*2^t)))(hu:¬X.le (4*(2^p*2^t))):
 Zrh p X (t*2^p+k)/\k<=2*2^p/\(t=0\/2^p<=k):=by
 have hT:0<2^t:=Nat.two_pow_pos t;have hB2:2^p%2=0:=by
  obtain⟨q,rfl⟩:∃q,p=q+1:=⟨p-1,oM⟩
  rw[Nat.pow_succ];omega
 have hB:0<2^p:=Nat.two_pow_pos p;have kle:k<=2*2^p:=by
  rcases Nat.lt_or_ge (2*2^p) k with c|c
  ·exfalso;obtain⟨j,rfl⟩:∃j,k=j+1:=⟨k-1,oM⟩
   refine hu (X.le_mono ?_ (h.dn j rfl));rw[←Nat.mul_assoc];exact Nat.mul_le_mul_right _ oM
  ·exact c
 have kge:t=0\/2^p<=k:=by
  rcases hr with c|c
  ·exact Or.inl c
  ·right;rcases Nat.lt_or_ge k (2^p)with c2|c2
   ·exfalso;refine h.up (X.a2 _ _ ?_ c);rw[←Nat.mul_assoc];exact Nat.mul_lt_mul_of_pos_right oM hT
   ·exact c2
 refine⟨?_,kle,kge⟩;have par:(t*2^p+k)%2=k%2:=by
  have:(t*2^p)%2=0:=by rw[Nat.mul_mod,hB2,Nat.mul_zero,Nat.zero_mod]
  omega
 have vr:V p (t*2^p+k)=k*2^t:=V_at p t k kle kge;have vs:=Zry p (t*2^p+k);have sge:2^t<=2^((t*2^p+k)/2^p-1):=by
  exact Zes
 have up2:(2*k+1)*2^t<=V p (t*2^p+k)+V p (t*2^p+k+1):=by
  rw[vs,vr];have:(2*k+1)*2^t=k*2^t+k*2^t+2^t:=by rw[Nat.add_mul,Nat.mul_assoc];omega
  omega
 have low:∀q,t*2^p+k=q+1->∃j,k=j+1/\(V p q+V p (t*2^p+k)=(2*j+1)*2^t\/(V p q+V p (t*2^p+k)<2*(2^p*2^t)/\X.le (2*(2^p*2^t)))):=by
  intro q hq;have hk0:k≠0:=by
   intro k0;subst k0;rcases kge with c|c
   ·subst c;omega
   ·omega
  obtain⟨j,rfl⟩:∃j,k=j+1:=⟨k-1,oM⟩
  refine⟨j,rfl,?_⟩;have hqj:q=t*2^p+j:=oM;rcases Nat.lt_or_ge j (2^p)with c2|c2
  ·by_cases c3:t=0
   ·left;have:V p q=j*2^t:=by rw[hqj];exact V_at p t j oM (Or.inl c3)
    rw[vr,this,←Nat.add_mul];congr 1;omega
   ·right;have hk:j+1=2^p:=oM;refine⟨?_,hr.resolve_left c3⟩;have:=V_lt p (show q<t*2^p+(j+1) by omega);rw[vr,hk]at this ⊢;omega
  ·left;have:V p q=j*2^t:=by rw[hqj];exact V_at p t j oM (Or.inr c2)
   rw[vr,this,←Nat.add_mul];congr 1;omega
 refine⟨?_,?_,?_,?_⟩
 ·intro k1;exact h.up (by
   rcases Nat.lt_or_eq_of_le up2 with e|e
   ·exact X.a2 _ _ e (X.a1 _ k1)
   ·rw[e];exact k1)
 ·intro k1;rw[par];exact h.ue (X.le_mono up2 k1)
 ·intro q hq;obtain⟨j,hj,e|⟨e,e2⟩⟩:=low q hq
  ·rw[e];exact h.dn j hj
  ·exact X.a1 _ (X.a2 _ _ e e2)
 ·intro q hq k1;rw[par];obtain⟨j,hj,e|⟨e,e2⟩⟩:=low q hq
  ·rw[e]at k1;exact h.de j hj k1
  ·exact absurd (X.a2 _ _ e e2) k1
def rootPos(n:Nat):Pos where
 le c:=c*c<=4*n
 lt c:=c*c<4*n
 a1:=fun c h=>Nat.le_of_lt h
 a2:=fun c c' h k=>Nat.lt_of_lt_of_le (Nat.mul_self_lt_mul_self h) k
def ratPos(n d:Nat)(hd:0<d):Pos where
 le c:=c*d<=2*n
 lt c:=c*d<2*n
 a1:=fun c h=>Nat.le_of_lt h
 a2:=fun c c' h k=>Nat.lt_of_lt_of_le (Nat.mul_lt_mul_of_pos_right h hd) k
theorem Zanf{p n d r:Nat}(hd:0<d):Near p n d r↔Zrh p (ratPos n d hd) r:=by
 constructor
 ·intro h;refine⟨?_,?_,?_,?_⟩
  ·exact Nat.not_lt.2 h.up
  ·intro k;exact h.ue (Nat.le_antisymm h.up k)
  ·exact h.dn
  ·intro q hq k;exact h.de q hq (Nat.le_antisymm (h.dn q hq) (Nat.not_lt.1 k))
 ·intro h;refine⟨?_,?_,?_,?_⟩
  ·exact Nat.not_lt.1 h.up
  ·intro k;exact h.ue (Nat.le_of_eq k.symm)
  ·exact h.dn
  ·intro q hq k;exact h.de q hq (Nat.not_lt.2 (Nat.le_of_eq k.symm))
def Zlv(p n r:Nat):Prop:=Zrh p (rootPos n) r
theorem Zlv.mono{p n n' r r':Nat}(h:Zlv p n r)(h':Zlv p n' r')(hn:n<=n'):r<=r':=
 Zrh.mono h h' (fun c (k:c*c<4*n)=>show c*c<4*n' by omega) (fun c (k:c*c<=4*n)=>show c*c<=4*n' by omega)
theorem Zlv.unique{p n r r':Nat}(h:Zlv p n r)(h':Zlv p n r'):r=r':=
 Nat.le_antisymm (h.mono h' (Nat.le_refl _)) (h'.mono h (Nat.le_refl _))
theorem Zur(p:Nat)(L:Int)(mag:Nat)(place:Int)(hp:1<=p)(big:p+2<=mag.log2)(a:Nat)(b:Nat)(h:(a:Int)+L=place+b)(X:Pos)
 (st:∀c u:Nat,u+a=c+b->2<=u->∀k,(X.lt (k*2^c)↔k*2^u<2*mag)/\(X.le (k*2^c)↔k*2^u<=2*mag)):Zrh p X (Zkg p L mag place):=by
 have h0:mag≠0:=by intro e;subst e;simp[Nat.log2_zero]at big
 obtain⟨t,k,j,u,e,hc,e1,e2,e3,e4⟩:=Zwv p L mag place h0;have hj:j=0:=oM;subst hj;have hu2:2<=u:=oM;have htu:u+a=t+b:=oM;simp only[Nat.pow_zero,Nat.mul_one]at hc;rw[e];have hlo:2^mag.log2<=mag:=Nat.log2_self_le h0;have hhi:mag<2^(mag.log2+1):=Nat.lt_log2_self;have S:=st t u htu hu2;have up:=hc.up;have ue:=hc.ue;have dn:=hc.dn;have de:=hc.de;simp only[Nat.mul_one]at up ue dn de;have pc:PCut X k t:=by
  refine⟨?_,?_,?_,?_⟩
  ·rw[(S _).1];omega
  ·rw[(S _).2];intro q;exact ue oM
  ·intro j hj;rw[(S _).2];subst hj;have:2*(j+1)*2^u=(2*j+1)*2^u+2^u:=by rw[←Nat.succ_mul];rfl
   omega
  ·intro j hj;rw[(S _).1];subst hj;have:2*(j+1)*2^u=(2*j+1)*2^u+2^u:=by rw[←Nat.succ_mul];rfl
   intro q;exact de oM
 refine(pc.near hp ?_ ?_).1
 ·rcases e2 with c|c
  ·exact Or.inl c
  ·right;rw[←Nat.mul_assoc,(S _).2,Nat.mul_assoc,←Nat.pow_add];have:p+u=mag.log2:=oM;rw[this];omega
 ·rw[←Nat.mul_assoc,(S _).2];have:2^(mag.log2+1)<=2^(p+u+1):=Nat.pow_le_pow_right oM oM;rw[Nat.mul_assoc,←Nat.pow_add];rw[Nat.pow_succ]at this;omega
def ng(a:Nat):Bool:=a/2147483648%2==1
def rg(a:Nat):Nat:=a%2147483648
def mg(a:Nat):Nat:=if rg a<8388608 then rg a else 8388608+rg a%8388608
def te(a:Nat):Nat:=rg a/8388608-1
def mv(a:Nat):Nat:=V 23 (rg a)
def sg(s:Bool)(m:Nat):Int:=if s then -(m:Int)else m
def sv(a:Nat):Int:=sg (ng a) (mv a)
def wd(s:Bool)(r:Nat):Nat:=if s then 2147483648+min r 2139095040 else min r 2139095040
def R(n:Nat):Nat:=Zkg 23 (-149) n (-149)
theorem Zpr(a:Nat):mv a=mg a*2^te a:=by
 unfold mv V mg te;by_cases h:rg a<8388608
 ·rw[if_pos h,if_pos h,Nat.div_eq_of_lt h];simp
 ·rw[if_neg h,if_neg h]
theorem mg_lt(a:Nat):mg a<16777216:=by
 unfold mg;split<;>omega
theorem Zkr:Ieee.single.leastPlace= -149:=rfl
theorem Zmb:Ieee.single.fractionBits=23:=rfl
theorem Zrv(s:Bool)(r:Nat):Ieee.single.word s (min r Ieee.single.infRung)=wd s r:=rfl
theorem Zml(a:Nat):Ieee.single.read a=if rg a<8388608 then .number (ng a) (rg a) (-149)else if rg a<2139095040 then .number (ng a) (8388608+rg a%8388608) (-149+((rg a/8388608-1:Nat):Int))else if rg a=2139095040 then .infinity (ng a)else .nan (ng a) (rg a-2139095040):=rfl
theorem Zjy(a:Nat)(h:rg a<2139095040):Ieee.single.read a=.number (ng a) (mg a) (-149+(te a:Int)):=by
 rw[Zml];unfold mg te;by_cases c:rg a<8388608
 ·rw[if_pos c,if_pos c,Nat.div_eq_of_lt c];simp
 ·rw[if_neg c,if_pos h,if_neg c]
theorem Zlw(a:Nat)(h:rg a=2139095040):Ieee.single.read a=.infinity (ng a):=by
 rw[Zml,if_neg oM,if_neg oM,if_pos h]
theorem Zli(a:Nat)(h:2139095040<rg a):Ieee.single.read a=.nan (ng a) (rg a-2139095040):=by
 rw[Zml,if_neg oM,if_neg oM,if_neg oM]
theorem near_R(n:Nat):Near 23 n 1 (R n):=by
 have:=Znj 23 (-149) n (-149) dE 0 0 dE;simpa[R]using this
theorem Zacb(m:Nat)(t:Nat):Zkg 23 (-149) m (-149+(t:Int))=R (m*2^t):=by
 have h1:=Znj 23 (-149) m (-149+(t:Int)) dE t 0 sO;exact h1.unique (near_R (m*2^t)) dE dE sM
theorem Zvx(s:Bool)(m u c:Nat):Ieee.signed s m u*(2:Int)^c=sg s (m*2^(u+c)):=by
 unfold Ieee.signed sg;have e:((m<<<u:Nat):Int)*2^c=((m*2^(u+c):Nat):Int):=by
  rw[Nat.shiftLeft_eq,Nat.pow_add,←Nat.mul_assoc];push_cast;rfl
 cases s
 ·simpa using e
 ·simp only[if_true];rw[Int.neg_mul,e]
theorem Zyx(m n more:Nat)(hn:0<n)(place:Int)(big:25<=(2*((m<<<more)/n)+((m<<<more)%n != 0).toNat).log2)(a s:Nat)(h:(a:Int)=place+more+1+149+s)(hma:more<=a):
 Near 23 (m*2^a) (n*2^s) (Zkg 23 (-149) (2*((m<<<more)/n)+((m<<<more)%n != 0).toNat) place):=by
 have hd:0<n*2^s:=Nat.mul_pos hn (Nat.two_pow_pos s);rw[Zanf hd];refine Zur 23 (-149) _ place dE big a (more+1+s) (by push_cast;omega) _ ?_;intro c u hcu hu k;rw[Nat.shiftLeft_eq]at *;have hm:=Nat.div_add_mod (m*2^more) n;have hl:=Nat.mod_lt (m*2^more) hn;generalize hq:m*2^more/n=q at *;generalize hr:m*2^more%n=r at *;obtain⟨v,rfl⟩:∃v,u=v+2:=⟨u-2,oM⟩
 have hb:(r != 0).toNat=if r=0 then 0 else 1:=by by_cases c:r=0<;>simp[c]
 rw[hb];have e1:k*2^c*(n*2^s)=(k*2^v*n)*2^(s+c-v):=by
  have:2^c*2^s=2^v*2^(s+c-v):=by rw[←Nat.pow_add,←Nat.pow_add];congr 1;omega
  calc k*2^c*(n*2^s)=k*n*(2^c*2^s):=by grind
   _=k*n*(2^v*2^(s+c-v)):=by rw[this]
   _=_:=by grind
 have e2:2*(m*2^a)=(m*2^more)*2^(s+c-v):=by
  have:2^a*2=2^more*2^(s+c-v):=by rw[←Nat.pow_succ,←Nat.pow_add];congr 1;omega
  calc 2*(m*2^a)=m*(2^a*2):=by grind
   _=_:=by rw[this,Nat.mul_assoc]
 have hP:0<2^(s+c-v):=Nat.two_pow_pos _;have e3:k*2^(v+2)=4*(k*2^v):=by rw[Nat.pow_succ,Nat.pow_succ];grind
 show(k*2^c*(n*2^s)<2*(m*2^a)↔_)/\(k*2^c*(n*2^s)<=2*(m*2^a)↔_);rw[e1,e2,e3,Nat.mul_lt_mul_right hP,Nat.mul_le_mul_right_iff hP];generalize k*2^v=K;generalize m*2^more=M at *;have l1:K<q->K*n+n<=n*q:=fun h=>by
  have:=Nat.mul_le_mul_left n (show K+1<=q from h);rw[Nat.mul_add,Nat.mul_one,Nat.mul_comm n K]at this;exact this
 have l2:q<K->n*q+n<=K*n:=fun h=>by
  have:=Nat.mul_le_mul_left n (show q+1<=K from h);rw[Nat.mul_add,Nat.mul_one,Nat.mul_comm n K]at this;exact this
 have l3:q=K->n*q=K*n:=fun h=>by rw[h,Nat.mul_comm]
 rcases Nat.lt_trichotomy K q with d|d|d
 ·have:=l1 d;by_cases r0:r=0<;>simp only[r0,if_true,if_false]<;>omega
 ·have:=l3 d.symm;by_cases r0:r=0<;>simp only[r0,if_true,if_false]<;>omega
 ·have:=l2 d;by_cases r0:r=0<;>simp only[r0,if_true,if_false]<;>omega
theorem Zwd{m n more j:Nat}(hn:0<n)(h:n*2^j<=m*2^more):j+1<=(2*((m<<<more)/n)+((m<<<more)%n != 0).toNat).log2:=by
 rw[Nat.shiftLeft_eq];have:2^j<=m*2^more/n:=(Nat.le_div_iff_mul_le hn).2 (by rw[Nat.mul_comm];exact h);generalize m*2^more/n=q at *;generalize (m*2^more%n != 0).toNat=b;have hp:=Nat.two_pow_pos j;apply(Nat.le_log2 oM).2;rw[Nat.pow_succ];omega
theorem div_fin(a b:Nat)(ha:rg a<2139095040)(hb:rg b<2139095040)(ha0:mg a≠0)(hb0:mg b≠0):
 ∃r,Ieee.single.div a b=some (wd (ng a^^ng b) r)/\Near 23 (mv a*2^149) (mv b) r:=by
 unfold Ieee.Format.div;rw[Zjy a ha,Zjy b hb];simp only[Ieee.Datum.quotient,Option.map_some,Ieee.Format.write,if_neg hb0];rw[Zjw];refine⟨_,rfl,?_⟩;rw[Zkr,Zmb];generalize hmore:23+2+(mg b).log2-(mg a).log2=more;have hbp:0<mg b:=Nat.pos_of_ne_zero hb0;have hla:(mg a).log2<=23:=by
  have:(mg a).log2<24:=(Nat.log2_lt ha0).2 (mg_lt a);omega
 have big:25<=(2*((mg a<<<more)/mg b)+((mg a<<<more)%mg b != 0).toNat).log2:=by
  refine Zwd hbp (j:=24) ?_;have h1:mg b<2^((mg b).log2+1):=Nat.lt_log2_self;have h2:2^(mg a).log2<=mg a:=Nat.log2_self_le ha0
  calc mg b*2^24<=2^((mg b).log2+1)*2^24:=Nat.mul_le_mul_right _ (Nat.le_of_lt h1)
   _=2^(mg a).log2*2^more:=by rw[←Nat.pow_add,←Nat.pow_add];congr 1;omega
   _<=mg a*2^more:=Nat.mul_le_mul_right _ h2
 have:=Zyx (mg a) (mg b) more hbp (-149+(te a:Int)-(-149+(te b:Int))-(more:Nat)-1) big (149+te a) (te b) (by push_cast;omega) (by have:(mg b).log2<24:=(Nat.log2_lt hb0).2 (mg_lt b);omega);rw[Zpr,Zpr];rw[show mg a*2^te a*2^149=mg a*2^(149+te a) by rw[Nat.mul_assoc,←Nat.pow_add,Nat.add_comm]];exact this
theorem Zvk(p m c:Nat)(hm:m<2^(p+1)):∃t k,V p (t*2^p+k)=m*2^c/\k<=2*2^p/\(t=0\/2^p<=k)/\k*2^t=m*2^c:=by
 by_cases h0:m=0
 ·subst h0;exact⟨0,0,by simp[Zpo],oM,Or.inl rfl,sM⟩
 ·have hl:m.log2<p+1:=(Nat.log2_lt h0).2 hm;have hlo:2^m.log2<=m:=Nat.log2_self_le h0;have hhi:m<2^(m.log2+1):=Nat.lt_log2_self;have e:m*2^min c (p-m.log2)*2^(c-min c (p-m.log2))=m*2^c:=by
   rw[Nat.mul_assoc,←Nat.pow_add];congr 2;omega
  have k1:m*2^min c (p-m.log2)<=2*2^p:=by
   calc m*2^min c (p-m.log2)<=2^(m.log2+1)*2^min c (p-m.log2):=Nat.mul_le_mul_right _ (Nat.le_of_lt hhi)
    _=2^(m.log2+1+min c (p-m.log2)):=(Nat.pow_add ..).symm
    _<=2^(p+1):=Nat.pow_le_pow_right oM oM
    _=2*2^p:=by rw[Nat.pow_succ,Nat.mul_comm]
  have k2:c-min c (p-m.log2)=0\/2^p<=m*2^min c (p-m.log2):=by
   rcases Nat.le_total c (p-m.log2)with q|q
   ·left;omega
   ·right
    calc 2^p=2^m.log2*2^min c (p-m.log2):=by rw[←Nat.pow_add];congr 1;omega
     _<=_:=Nat.mul_le_mul_right _ hlo
  exact⟨c-min c (p-m.log2),m*2^min c (p-m.log2),by rw[V_at p _ _ k1 k2,e],k1,k2,e⟩
theorem Zri(n:Nat):∀ (todo root:Nat),root*root<=n->n<(root+2^todo)*(root+2^todo)->
 Ieee.Datum.rootFrom n todo root*Ieee.Datum.rootFrom n todo root<=n/\n<(Ieee.Datum.rootFrom n todo root+1)*(Ieee.Datum.rootFrom n todo root+1)
 |0,root,h1,h2=>by simpa[Ieee.Datum.rootFrom]using⟨h1,h2⟩
 |todo+1,root,h1,h2=>by
  unfold Ieee.Datum.rootFrom;simp only[Nat.shiftLeft_eq,Nat.one_mul];by_cases c:(root+2^todo)*(root+2^todo)<=n
  ·rw[if_pos c];refine Zri n todo _ c ?_;rw[Nat.pow_succ]at h2;rw[show root+2^todo+2^todo=root+2^todo*2 by omega];exact h2
  ·rw[if_neg c];exact Zri n todo root h1 oM
theorem Ztk(p:Nat)(L:Int)(w n:Nat)(place:Int)(hp:1<=p)(h1:w*w<=n)(h2:n<(w+1)*(w+1))(big:p+2<=(2*w+(w*w != n).toNat).log2)(a:Nat)(h:(a:Int)=place+1-L):
 Zlv p (n*(2^a*2^a)) (Zkg p L (2*w+(w*w != n).toNat) place):=by
 refine Zur p L _ place hp big a 1 oM _ ?_;intro c u hcu hu k;obtain⟨v,rfl⟩:∃v,u=v+2:=⟨u-2,oM⟩
 have hc:c=v+1+a:=oM;subst hc;have hb:(w*w != n).toNat=if w*w=n then 0 else 1:=by by_cases c:w*w=n<;>simp[c]
 rw[hb];have hA:0<2^a*2^a:=Nat.mul_pos (Nat.two_pow_pos a) (Nat.two_pow_pos a);have e1:k*2^(v+1+a)*(k*2^(v+1+a))=4*((k*2^v)*(k*2^v))*(2^a*2^a):=by
  rw[Nat.pow_add,Nat.pow_succ];grind
 have e2:4*(n*(2^a*2^a))=4*n*(2^a*2^a):=by rw[Nat.mul_assoc]
 have e3:k*2^(v+2)=4*(k*2^v):=by rw[Nat.pow_succ,Nat.pow_succ];grind
 show(k*2^(v+1+a)*(k*2^(v+1+a))<4*(n*(2^a*2^a))↔_)/\(k*2^(v+1+a)*(k*2^(v+1+a))<=4*(n*(2^a*2^a))↔_);rw[e1,e2,e3,Nat.mul_lt_mul_right hA,Nat.mul_le_mul_right_iff hA];generalize k*2^v=K;rcases Nat.lt_trichotomy K w with d|d|d
 ·have:=Nat.mul_self_lt_mul_self d;by_cases e:w*w=n<;>simp only[e,if_true,if_false]<;>omega
 ·subst d;by_cases e:K*K=n<;>simp only[e,if_true,if_false]<;>omega
 ·have:=Nat.mul_self_le_mul_self (show w+1<=K from d);by_cases e:w*w=n<;>simp only[e,if_true,if_false]<;>omega
theorem Zanq(p q:Nat):∃k t,V p q+V p (q+1)=(2*k+1)*2^t/\k<2*2^p/\(t=0\/2^p<=k):=by
 obtain⟨t,k,hr,hk,h,ht⟩:=Zsi p q;refine⟨k,t,?_,hk,h⟩;rw[hr,V_at p t k oM h,Nat.add_assoc,V_at p t (k+1) oM oM,←Nat.add_mul];congr 1;omega
theorem gap_up{A u Q c g:Nat}(hA:A=c*Q)(hQ:0<Q)(hu:u*2^53<=A)(hc:c*c<2^50*g)(h:(c*c+g)*(Q*Q)<=(A+u)*(A+u)):False:=by
 have e1:(A+u)*(A+u)=A*A+2*(A*u)+u*u:=by grind
 have e2:A*A=c*c*(Q*Q):=by rw[hA];grind
 have e3:(c*c+g)*(Q*Q)=c*c*(Q*Q)+g*(Q*Q):=Nat.add_mul ..;have k1:A*u*2^53<=A*A:=by rw[Nat.mul_assoc];exact Nat.mul_le_mul_left _ hu
 have k2:u*u*2^53<=A*u:=by
  have:=Nat.mul_le_mul_left u hu;rw[←Nat.mul_assoc,Nat.mul_comm u A]at this;exact this
 have hQQ:0<Q*Q:=Nat.mul_pos hQ hQ;have k3:c*c*(Q*Q)<2^50*g*(Q*Q):=Nat.mul_lt_mul_of_pos_right hc hQQ;rw[Nat.mul_assoc (2^50) g]at k3;generalize A*u=Y at *;generalize u*u=Z at *;generalize g*(Q*Q)=X at *;generalize c*c*(Q*Q)=W at *;omega
theorem gap_dn{A B u Q c g n:Nat}(hA:A=c*Q)(hQ:0<Q)(hu:u*2^53<=A)(hB:B+u=A)(hc:c*c<2^50*g)(hn:n+g<=c*c)(h:B*B<=n*(Q*Q)):False:=by
 have e2:A*A=c*c*(Q*Q):=by rw[hA];grind
 have e1:A*A=B*B+2*(B*u)+u*u:=by rw[←hB];grind
 have e3:(n+g)*(Q*Q)<=c*c*(Q*Q):=Nat.mul_le_mul_right _ hn;rw[Nat.add_mul]at e3;have k1:B*u*2^53<=B*A:=by rw[Nat.mul_assoc];exact Nat.mul_le_mul_left _ hu
 have k1':B*A<=A*A:=Nat.mul_le_mul_right _ oM;have k2:u*u*2^53<=A*A:=by
  exact Zfn
 have hQQ:0<Q*Q:=Nat.mul_pos hQ hQ;have k3:c*c*(Q*Q)<2^50*g*(Q*Q):=Nat.mul_lt_mul_of_pos_right hc hQQ;rw[Nat.mul_assoc (2^50) g]at k3;generalize B*u=Y at *;generalize u*u=Z at *;generalize g*(Q*Q)=X at *;exact Zfc
theorem half_dn{A B u Q c n:Nat}(hA:A=c*Q)(hQ:0<Q)(hu:u*2^53<=A)(hB:B+u=A)(h:B*B<=n*(Q*Q)):c*c<=2*n:=by
 have e2:A*A=c*c*(Q*Q):=by rw[hA];grind
 have e1:A*A=B*B+2*(B*u)+u*u:=by rw[←hB];grind
 have k1:B*u*2^53<=B*A:=by rw[Nat.mul_assoc];exact Nat.mul_le_mul_left _ hu
 have k1':B*A<=A*A:=Nat.mul_le_mul_right _ oM;have k2:u*u*2^53<=A*A:=by
  exact Zfn
 have hQQ:0<Q*Q:=Nat.mul_pos hQ hQ;refine Nat.le_of_mul_le_mul_right (c:=Q*Q) ?_ hQQ;rw[Nat.mul_assoc 2 n];generalize B*u=Y at *;generalize u*u=Z at *;exact Zfc
theorem Zaaz{g a b:Nat}(ha:a%g=0)(hb:b%g=0)(h:a<b):a+g<=b:=by
 rcases Nat.eq_zero_or_pos g with e|e
 ·subst e;omega
 ·obtain⟨x,rfl⟩:=Nat.dvd_of_mod_eq_zero ha;obtain⟨y,rfl⟩:=Nat.dvd_of_mod_eq_zero hb;have:x<y:=Nat.lt_of_mul_lt_mul_left h
  calc g*x+g=g*(x+1):=by rw[Nat.mul_add,Nat.mul_one]
   _<=g*y:=Nat.mul_le_mul_left _ this
theorem step_le(p r:Nat)(h:2^p<=r):2^(r/2^p-1)*2^p<=V p r:=by
 obtain⟨t,k,hr,hk,hkt,ht⟩:=Zsi p r;have hk2:2^p<=k:=by
  rcases hkt with e|e
  ·subst e;omega
  ·exact e
 rw[←ht,Nat.mul_comm];have:V p r=k*2^t:=by rw[hr];exact V_at p t k oM hkt
 rw[this];exact Nat.mul_le_mul_right _ hk2
theorem Zaic(m j N Q rD q:Nat)(hN:N=m*2^j*2^149)(S e:Nat)(hS:S=2^e)(he:52<=e)(hQe:Q=2*S)(hm0:0<m)(hm:m<2^24)(h:Zlv 52 (N*(Q*Q)) rD):
 ((V 23 q+V 23 (q+1))*(V 23 q+V 23 (q+1))<4*N->(V 23 q+V 23 (q+1))*Q<2*V 52 rD)/\
 (4*N<(V 23 q+V 23 (q+1))*(V 23 q+V 23 (q+1))->2*V 52 rD<(V 23 q+V 23 (q+1))*Q)/\
 ((V 23 q+V 23 (q+1))*(V 23 q+V 23 (q+1))=4*N->2*V 52 rD=(V 23 q+V 23 (q+1))*Q):=by
 obtain⟨k,t,hc,hk,hkt⟩:=Zanq 23 q;rw[hc];generalize hC:(2*k+1)*2^t=c at *;obtain⟨tM,kM,hV,-,-,-⟩:=Zvk 52 (2*k+1) (t+e) (Nat.lt_of_lt_of_le (show 2*k+1<2^25 by omega) dE);generalize tM*2^52+kM=rM at *;rw[Nat.pow_add,←hS]at hV;have hS52:2^52<=S:=by rw[hS];exact Nat.pow_le_pow_right dE he
 clear hS;have hV2:2*V 52 rM=c*Q:=by
  rw[hV,←hC,hQe]
  grind
 have hc0:0<c:=by rw[←hC];exact Nat.mul_pos oM (Nat.two_pow_pos t)
 have hrM:2^52<=rM:=by
  rcases Nat.lt_or_ge rM (2^52)with e|e
  ·exfalso;have h1:V 52 rM=rM:=by unfold V;rw[if_pos e]
   have h2:2^52<=V 52 rM:=by
    rw[hV,←Nat.mul_assoc];exact Nat.le_trans hS52 (Nat.le_mul_of_pos_left _ (Nat.mul_pos oM (Nat.two_pow_pos t)))
   omega
  ·exact e
 have hstep:2^(rM/2^52-1)*2^53<=c*Q:=by
  have:=step_le 52 rM hrM;have e53:(2:Nat)^53=2*2^52:=dE;rw[←hV2,e53,←Nat.mul_assoc,Nat.mul_comm _ 2,Nat.mul_assoc];exact Nat.mul_le_mul_left 2 this
 have hQ:0<Q:=by rw[hQe];have:0<(2:Nat)^52:=Nat.two_pow_pos 52;omega
 clear hQe;have up:¬ ((V 52 rD+V 52 (rD+1))*(V 52 rD+V 52 (rD+1))<4*(N*(Q*Q))):=h.up;have dn:∀q,rD=q+1->(V 52 q+V 52 rD)*(V 52 q+V 52 rD)<=4*(N*(Q*Q)):=h.dn;have hsqQ:∀x:Nat,x*Q*(x*Q)=x*x*(Q*Q):=by
  intro x;rw[Nat.mul_mul_mul_comm]
 have h4:4*(N*(Q*Q))=4*N*(Q*Q):=by rw[Nat.mul_assoc]
 rw[h4]at up dn;have hQQ:0<Q*Q:=Nat.mul_pos hQ hQ;have below:rD<rM->(V 52 rD+V 52 (rD+1))<c*Q:=by
  intro l;have:=V_lt 52 l;have:=V_le 52 (show rD+1<=rM from l);omega
 have above:rM<rD->∃q,rD=q+1/\c*Q<V 52 q+V 52 rD:=by
  intro l;refine⟨rD-1,oM,?_⟩;have:=V_lt 52 l;have:=V_le 52 (show rM<=rD-1 by omega);omega
 have hcsq:c*c<2^50*(2^t*2^t):=by
  rw[←hC];have h1:(2*k+1)*(2*k+1)<2^50:=by
   have:2*k+1<2^25:=oM
   calc (2*k+1)*(2*k+1)<2^25*2^25:=Nat.mul_self_lt_mul_self this
    _=2^50:=dE
  have h2:0<2^t*2^t:=Nat.mul_pos (Nat.two_pow_pos t) (Nat.two_pow_pos t);rw[Nat.mul_mul_mul_comm];exact Nat.mul_lt_mul_of_pos_right h1 h2
 have hcm:c*c%(2^t*2^t)=0:=by rw[←hC,Nat.mul_mul_mul_comm];exact Nat.mul_mod_left ..
 have hNm:c*c<=2*(4*N)->4*N%(2^t*2^t)=0:=by
  intro l;have e4:4*N=m*2^(j+151):=by
   rw[hN,Nat.mul_assoc m,←Nat.pow_add,show j+151=j+149+2 from rfl,Nat.pow_add 2 (j+149) 2];grind
  have hle:t+t<=j+151:=by
   rcases hkt with e|e
   ·omega
   ·rcases Nat.lt_or_ge (j+151) (t+t)with f|f
    ·exfalso;have h1:2^48*(2^t*2^t)<=c*c:=by
      rw[←hC,Nat.mul_mul_mul_comm];apply Nat.mul_le_mul_right;have:2^24<=2*k+1:=oM
      calc 2^48=2^24*2^24:=dE
       _<=_:=Nat.mul_self_le_mul_self this
     have h2:2*(4*N)<2^48*(2^t*2^t):=by
      rw[e4,←Nat.pow_add,←Nat.mul_assoc]
      calc 2*m*2^(j+151)<2^48*2^(j+151):=Nat.mul_lt_mul_of_pos_right oM (Nat.two_pow_pos _)
       _<=2^48*2^(t+t):=Nat.mul_le_mul_left _ (Nat.pow_le_pow_right dE oM)
     omega
    ·exact f
  rw[e4,←Nat.pow_add,show j+151=(t+t)+(j+151-(t+t)) by omega,Nat.pow_add,←Nat.mul_assoc,Nat.mul_comm m,Nat.mul_assoc];exact Nat.mul_mod_right ..
 refine⟨?_,?_,?_⟩
 ·intro l;rcases Nat.lt_or_ge (c*Q) (2*V 52 rD)with f|f
  ·exact f
  ·exfalso;have hle:rD<=rM:=by
    rcases Nat.lt_or_ge rM rD with f2|f2
    ·have:=V_lt 52 f2;omega
    ·exact f2
   apply up;rcases Nat.lt_or_eq_of_le hle with e|e
   ·refine Nat.lt_trans (Nat.mul_self_lt_mul_self (below e)) ?_;rw[hsqQ];exact Nat.mul_lt_mul_of_pos_right l hQQ
   ·subst e;have hst:V 52 (rD+1)=V 52 rD+2^(rD/2^52-1):=Zry 52 rD;have hsum:V 52 rD+V 52 (rD+1)=c*Q+2^(rD/2^52-1):=oM;rw[hsum];rcases Nat.lt_or_ge ((c*Q+2^(rD/2^52-1))*(c*Q+2^(rD/2^52-1))) (4*N*(Q*Q))with f3|f3
    ·exact f3
    ·exfalso;refine gap_up rfl hQ hstep hcsq (Nat.le_trans (Nat.mul_le_mul_right _ ?_) f3);exact Zaaz hcm (hNm oM) l
 ·intro l;rcases Nat.lt_or_ge (2*V 52 rD) (c*Q)with f|f
  ·exact f
  ·exfalso;have hle:rM<=rD:=by
    rcases Nat.lt_or_ge rD rM with f2|f2
    ·have:=V_lt 52 f2;omega
    ·exact f2
   rcases Nat.lt_or_eq_of_le hle with e|e
   ·obtain⟨q,hq,hab⟩:=above e;have h1:=dn q hq;have h2:=Nat.mul_self_lt_mul_self hab;rw[hsqQ]at h2;have h3:4*N*(Q*Q)<c*c*(Q*Q):=Nat.mul_lt_mul_of_pos_right l hQQ;omega
   ·subst e;obtain⟨q,rfl⟩:∃q,rM=q+1:=⟨rM-1,by have:0<(2:Nat)^52:=Nat.two_pow_pos 52;omega⟩
    have h1:=dn q rfl;have hst:V 52 (q+1)=V 52 q+2^(q/2^52-1):=Zry 52 q;have hsm:2^(q/2^52-1)*2^53<=c*Q:=by
     refine Nat.le_trans (Nat.mul_le_mul_right _ ?_) hstep;apply Nat.pow_le_pow_right dE;have:q/2^52<=(q+1)/2^52:=Nat.div_le_div_right oM;omega
    have hB:V 52 q+V 52 (q+1)+2^(q/2^52-1)=c*Q:=oM;have hh:=half_dn rfl hQ hsm hB h1;exact gap_dn rfl hQ hsm hB hcsq (Zaaz (hNm hh) hcm l) h1
 ·intro l;have e:rD=rM:=by
   rcases Nat.lt_trichotomy rD rM with e|e|e
   ·exfalso;apply up;have:=Nat.mul_self_lt_mul_self (below e);rw[hsqQ,l]at this;exact this
   ·exact e
   ·exfalso;obtain⟨q,hq,hab⟩:=above e;have h1:=dn q hq;have h2:=Nat.mul_self_lt_mul_self hab;rw[hsqQ,l]at h2;omega
  rw[e];exact hV2
theorem Zaal(m j rD r:Nat)(hm0:0<m)(hm:m<2^24)(N Q:Nat)(hN:N=m*2^j*2^149)(S e:Nat)(hS:S=2^e)(he:52<=e)(hQe:Q=2*S)(h:Zlv 52 (N*(Q*Q)) rD)(hr:Near 23 (V 52 rD) Q r):Zlv 23 N r:=by
 have A:=fun q=>Zaic m j N Q rD q hN S e hS he hQe hm0 hm h;have up:=hr.up;have ue:=hr.ue;have dn:=hr.dn;have de:=hr.de;refine⟨?_,?_,?_,?_⟩
 ·intro k;exact absurd ((A r).1 k) oM
 ·intro k;rcases Nat.lt_or_eq_of_le k with e|e
  ·exact absurd ((A r).1 e) oM
  ·exact ue ((A r).2.2 e)
 ·intro q hq;subst hq;rcases Nat.lt_or_ge (4*N) ((V 23 q+V 23 (q+1))*(V 23 q+V 23 (q+1)))with e|e
  ·exact absurd ((A q).2.1 e) (Nat.not_lt.2 (dn q rfl))
  ·exact e
 ·intro q hq k;subst hq;rcases Nat.lt_or_ge (4*N) ((V 23 q+V 23 (q+1))*(V 23 q+V 23 (q+1)))with e|e
  ·exact absurd ((A q).2.1 e) (Nat.not_lt.2 (dn q rfl))
  ·exact de q rfl ((A q).2.2 (Nat.le_antisymm e (Nat.not_lt.1 k))).symm
theorem Zpl(f:Ieee.Format)(s:Bool)(r:Nat)(h:r<f.infRung):∃m t:Nat,f.read (f.word s r)=.number s m (f.leastPlace+(t:Int))/\m*2^t=V f.fractionBits r/\(m<2*2^f.fractionBits):=by
 have hlt:r<f.signWeight:=Nat.lt_trans h f.infRung_lt;have e1:f.word s r%f.signWeight=r:=by
  unfold Ieee.Format.word;split
  ·rw[Nat.add_mod_left,Nat.mod_eq_of_lt hlt]
  ·exact Nat.mod_eq_of_lt hlt
 have e2:(f.word s r/f.signWeight%2==1)=s:=by
  unfold Ieee.Format.word;cases s
  ·simp[Nat.div_eq_of_lt hlt]
  ·have:(f.signWeight+r)/f.signWeight=1:=by
    rw[Nat.add_div_left _ (Nat.zero_lt_of_lt hlt),Nat.div_eq_of_lt hlt]
   simp[this]
 have hB:0<2^f.fractionBits:=Nat.two_pow_pos _;unfold Ieee.Format.read;simp only[e1,e2];unfold V;by_cases c:r<f.binade
 ·rw[if_pos c];have c':r<2^f.fractionBits:=c;rw[if_pos c'];exact⟨r,0,sM,sM,oM⟩
 ·rw[if_neg c,if_pos h];have c':¬r<2^f.fractionBits:=c;rw[if_neg c'];have:=Nat.mod_lt r hB;exact⟨_,_,rfl,rfl,by unfold Ieee.Format.binade;omega⟩
theorem V_big(p t r:Nat)(h:(t+1)*2^p<=r):2^(p+t)<=V p r:=by
 refine Nat.le_trans ?_ (V_le p h);have:(t+1)*2^p=t*2^p+2^p:=by rw[Nat.add_mul,Nat.one_mul]
 rw[this,V_at p t (2^p) oM (Or.inr (Nat.le_refl _)),Nat.pow_add];exact Nat.le_refl _
theorem Zlv.small{p n r:Nat}(h:Zlv p n r):V p r*V p r<=4*n:=by
 rcases Nat.eq_zero_or_pos r with e|e
 ·subst e;rw[Zpo];omega
 ·have:(V p (r-1)+V p r)*(V p (r-1)+V p r)<=4*n:=h.dn (r-1) oM;exact Nat.le_trans (Nat.mul_self_le_mul_self oM) this
theorem Zlv.lt{p n r t R:Nat}(h:Zlv p n r)(hR:(t+1)*2^p<=R)(hn:4*n<2^(p+t)*2^(p+t)):r<R:=by
 rcases Nat.lt_or_ge r R with c|c
 ·exact c
 ·have h1:=V_big p t r (Nat.le_trans hR c);have h2:=Nat.mul_self_le_mul_self h1;have h3:=h.small;omega
theorem te_le(a:Nat)(h:rg a<2139095040):te a<=253:=by unfold te;omega
theorem Zwi:Ieee.double.infRung=2047*2^52:=rfl
theorem Zqq:Ieee.double.leastPlace= -1074:=rfl
theorem Znb:Ieee.double.fractionBits=52:=rfl
theorem Zyw(m t:Nat)(s:Bool)(hm:m<2^24)(ht:t<=253):∃r,Ieee.double.nearest s m (-149+(t:Int))=Ieee.double.word s r/\V 52 r=m*2^(t+925)/\r<Ieee.double.infRung:=by
 rw[Zjw,Znb,Zqq];have h1:=Znj 52 (-1074) m (-149+(t:Int)) dE (t+925) 0 oM;obtain⟨tM,kM,hV,-,-,-⟩:=Zvk 52 m (t+925) (Nat.lt_of_lt_of_le hm dE);have h2:=Zwh 52 (tM*2^52+kM) 1 dE;rw[hV]at h2;have e:=h1.unique h2 dE dE (by rw[Nat.pow_zero,Nat.mul_one,Nat.mul_one]);rw[e];have lt:tM*2^52+kM<Ieee.double.infRung:=by
  rcases Nat.lt_or_ge (tM*2^52+kM) Ieee.double.infRung with c|c
  ·exact c
  ·exfalso;obtain⟨T,hT⟩:∃T:Nat,T=2000:=⟨_,rfl⟩
   have h3:=V_big 52 T _ (Nat.le_trans (show(T+1)*2^52<=Ieee.double.infRung by rw[Zwi];exact Nat.mul_le_mul_right _ oM) c);rw[hV]at h3;have h4:m*2^(t+925)<2^24*2^(t+925):=Nat.mul_lt_mul_of_pos_right hm (Nat.two_pow_pos _);have h5:2^24*2^(t+925)<=2^(52+T):=by
    rw[←Nat.pow_add];exact Nat.pow_le_pow_right dE oM
   exact absurd (Nat.lt_of_le_of_lt h3 h4) (Nat.not_lt.2 h5)
 exact⟨tM*2^52+kM,by rw[Nat.min_eq_left (Nat.le_of_lt lt)],hV,lt⟩
theorem Zadi(x:Nat)(hx:x=1074)(r:Nat)(hr:r<Ieee.double.infRung)(h0:r≠0):∃rD,Ieee.double.sqrt (Ieee.double.word false r)=some (Ieee.double.word false (min rD Ieee.double.infRung))/\Zlv 52 (V 52 r*2^x) rD:=by
 obtain⟨m,t,hread,hmt,hm⟩:=Zpl Ieee.double false r hr;have hV0:0<V 52 r:=by have:=V_lt 52 (Nat.pos_of_ne_zero h0);omega
 have hm0:m≠0:=by
  intro e;subst e;rw[Znb]at hmt;omega
 unfold Ieee.Format.sqrt;rw[hread];simp only[Ieee.Datum.root,if_neg hm0,Bool.false_eq_true,if_false,Option.map_some,Ieee.Format.write];rw[Zjw,Znb,Zqq];have hl:m.log2<=52:=by
  have:m.log2<53:=(Nat.log2_lt hm0).2 (by rw[Znb]at hm;exact Nat.lt_of_lt_of_le hm dE);omega
 generalize hi:(-1074+(t:Int))=i;generalize hm1:2*(52+2)-m.log2=more1;generalize hmore:more1+((i-(more1:Int))%2).toNat=more;have hpar:(i-(more:Int))%2=0:=oM;have hmo:56<=more/\more<=109:=oM;have hn0:m<<<more≠0:=by
  rw[Nat.shiftLeft_eq];exact Nat.ne_of_gt (Nat.mul_pos (Nat.pos_of_ne_zero hm0) (Nat.two_pow_pos _))
 generalize hn:m<<<more=n at *;have hlo:2^m.log2<=m:=Nat.log2_self_le hm0;have hn108:2^108<=n:=by
  rw[←hn,Nat.shiftLeft_eq]
  calc 2^108<=2^(m.log2+more):=Nat.pow_le_pow_right dE oM
   _=2^m.log2*2^more:=Nat.pow_add ..
   _<=m*2^more:=Nat.mul_le_mul_right _ hlo
 have hrt:=Zri n (n.log2/2+1) 0 oM (by
  have:n<2^(n.log2+1):=Nat.lt_log2_self;rw[Nat.zero_add,←Nat.pow_add]
  exact Nat.lt_of_lt_of_le this (Nat.pow_le_pow_right dE oM))
 generalize Ieee.Datum.rootFrom n (n.log2/2+1) 0=w at *;have hw:2^53<=w:=by
  rcases Nat.lt_or_ge w (2^53)with c|c
  ·exfalso;have:=Nat.mul_self_le_mul_self (show w+1<=2^53 from c);have e:(2:Nat)^53*2^53<2^108:=dE;omega
  ·exact c
 have big:52+2<=(2*w+(w*w != n).toNat).log2:=by
  apply(Nat.le_log2 oM).2;omega
 refine⟨_,rfl,?_⟩;obtain⟨a,ha⟩:∃a:Nat,(a:Int)=(i-(more:Int))/2+1074:=⟨((i-(more:Int))/2+1074).toNat,oM⟩
 have hnr:=Ztk 52 (-1074) w n ((i-(more:Int))/2-1) dE hrt.1 hrt.2 big a oM;have e:n*(2^a*2^a)=V 52 r*2^x:=by
  rw[Znb]at hmt;rw[←hmt,←hn,Nat.shiftLeft_eq,←Nat.pow_add,Nat.mul_assoc,Nat.mul_assoc,←Nat.pow_add,←Nat.pow_add];congr 2;omega
 rw[e]at hnr;exact hnr
theorem Zaqr(a:Nat)(ha:rg a<2139095040)(hs:ng a=false)(h0:mg a≠0):
 ∃rW rD mD tD r,Ieee.double.nearest false (mg a) (-149+(te a:Int))=Ieee.double.word false rW/\rW<Ieee.double.infRung/\
  Ieee.double.sqrt (Ieee.double.word false rW)=some (Ieee.double.word false rD)/\rD<Ieee.double.infRung/\
  Ieee.double.read (Ieee.double.word false rD)=.number false mD (-1074+(tD:Nat))/\
  Ieee.single.nearest false mD (-1074+(tD:Nat))=wd false r/\r<2139095040/\Zlv 23 (mv a*2^149) r:=by
 have hm24:mg a<2^24:=mg_lt a;have ht:=te_le a ha;obtain⟨rW,hw1,hw2,hw3⟩:=Zyw (mg a) (te a) false hm24 ht;have hrW:rW≠0:=by
  intro e;subst e;rw[Zpo]at hw2;have:=Nat.mul_pos (Nat.pos_of_ne_zero h0) (Nat.two_pow_pos (te a+925));omega
 obtain⟨x,hx⟩:∃x:Nat,x=1074:=⟨_,rfl⟩
 obtain⟨rD,hd1,hd2⟩:=Zadi x hx rW hw3 hrW;obtain⟨e,he⟩:∃e:Nat,e=924:=⟨_,rfl⟩
 have hN:V 52 rW*2^x=mg a*2^te a*2^149*((2*2^e)*(2*2^e)):=by
  have e2:(2:Nat)*2^e=2^(e+1):=by rw[Nat.pow_succ,Nat.mul_comm]
  rw[hw2,e2,Nat.mul_assoc,Nat.mul_assoc,Nat.mul_assoc,←Nat.pow_add,←Nat.pow_add,←Nat.pow_add,←Nat.pow_add];congr 2;omega
 rw[hN]at hd2;obtain⟨y,hy⟩:∃y:Nat,y=426:=⟨_,rfl⟩
 have hNb:mg a*2^te a*2^149<2^y:=by
  rw[Nat.mul_assoc,←Nat.pow_add]
  calc mg a*2^(te a+149)<2^24*2^(te a+149):=Nat.mul_lt_mul_of_pos_right hm24 (Nat.two_pow_pos _)
   _=2^(24+(te a+149)):=(Nat.pow_add ..).symm
   _<=2^y:=Nat.pow_le_pow_right dE oM
 have hrD:rD<Ieee.double.infRung:=by
  obtain⟨T,hT⟩:∃T:Nat,T=2000:=⟨_,rfl⟩
  refine hd2.lt (t:=T) (by rw[Zwi];exact Nat.mul_le_mul_right _ oM) ?_;have e2:(2:Nat)*2^e=2^(e+1):=by rw[Nat.pow_succ,Nat.mul_comm]
  rw[e2,←Nat.pow_add,←Nat.pow_add];have hpow:=Nat.two_pow_pos (e+1+(e+1));have l1:mg a*2^te a*2^149*2^(e+1+(e+1))<2^y*2^(e+1+(e+1)):=Nat.mul_lt_mul_of_pos_right hNb hpow;have l2:4*(2^y*2^(e+1+(e+1)))<=2^(52+T+(52+T)):=by
   rw[←Nat.pow_add];have:(4:Nat)=2^2:=rfl;rw[this,←Nat.pow_add];exact Nat.pow_le_pow_right dE oM
  exact Nat.lt_of_lt_of_le (Nat.mul_lt_mul_of_pos_left l1 dE) l2
 obtain⟨mD,tD,hrd,hmD,-⟩:=Zpl Ieee.double false rD hrD;rw[Znb]at hmD;rw[Zqq]at hrd;obtain⟨s,hs9⟩:∃s:Nat,s=925:=⟨_,rfl⟩
 have hnear:=Znj 23 (-149) mD (-1074+(tD:Int)) dE tD s oM;rw[hmD]at hnear;have hq:(2:Nat)^s=2*2^e:=by
  rw[show s=e+1 by omega,Nat.pow_succ,Nat.mul_comm]
 rw[hq]at hnear;have hfin:=Zaal (mg a) (te a) rD _ (Nat.pos_of_ne_zero h0) hm24 _ _ rfl _ e rfl oM rfl hd2 hnear;have hlt:Zkg 23 (-149) mD (-1074+(tD:Int))<2139095040:=by
  obtain⟨T,hT⟩:∃T:Nat,T=250:=⟨_,rfl⟩
  refine hfin.lt (t:=T) oM ?_;have l2:4*2^y<=2^(23+T)*2^(23+T):=by
   rw[←Nat.pow_add];have:(4:Nat)=2^2:=rfl;rw[this,←Nat.pow_add];exact Nat.pow_le_pow_right dE oM
  exact Nat.lt_of_lt_of_le (Nat.mul_lt_mul_of_pos_left hNb dE) l2
 refine⟨rW,rD,mD,tD,_,hw1,hw3,?_,hrD,hrd,?_,hlt,?_⟩
 ·rw[hd1,Nat.min_eq_left (Nat.le_of_lt hrD)]
 ·rw[Zjw,Zmb,Zkr,Zrv]
 ·rw[Zpr];exact hfin
theorem kind_at{l:List Par}{n:Int}{k:Nat}(h:n=(k:Int))(hk:k<l.length):Zkx l n=l[k].kind:=by
 subst h;unfold Zkx;rw[Int.toNat_natCast,List.getElem?_eq_getElem hk];rfl
theorem Zapw{l:List Sl}{n:Int}{k:Nat}(h:n=(k:Int))(hk:k<l.length):slotT l n=l[k].ty:=by
 subst h;unfold slotT;rw[Int.toNat_natCast,List.getElem?_eq_getElem hk];rfl
theorem Zahh(C:Nat)(v0 v1 v2 v3:Value)(c:Cd)(hk:CdOk c)(n:Int)(m:Ty)(w:World)(hc:CdAt w C v0 v1 v2 v3 c)(hp:n=1->isPl m.par c.sign.length=true):
 Calls prog 132 #[.pointer (some ⟨C,0,none⟩),.int .i64 n,.int .i64 9,tyV m] w fun e w'=>e=.returned (.bool (n==0||(n==1&&Zkx c.sign m.par==2)))/\Below w.heap.size w w':=by
 obtain⟨hcc,hcv⟩:=hc;have c1:=hcc.at 0 rfl;rw[Nat.zero_add]at c1;have hC:=Zhr c1;simp only at hC;have n1:C≠w.heap.size:=oM;obtain⟨K,P⟩:=m;unfold tyV;simp only at hp ⊢;have f1:(w.alloc (.cells #[.int .i64 K,.int .i64 P] 69)).cell? ⟨C,0,none⟩=some v0:=kc (Zhq _ _) c1;by_cases h0:n=0
 ·subst h0;clear hp hcv hcc;go_enter func132,ntmps132;go_wp2;refine rG (fun v=>v.cell? ⟨C,0,none⟩=some v0) fun hHeld=>?_;refine Tc 0 1 2 ?_;refine Kd 3 4 5 6 ?_;refine Kd 7 8 9 10 ?_;refine Kd 11 12 13 14 ?_;refine tkK 15 ?_;refine tkK 16 ?_;refine Tb 17 18 ?_;refine wpAnyH_done kR ?_ _;go_wp2;go_ret;exact⟨rfl,bel (Zhq _ _) (Zhs _)⟩
 have h0':(n==0)=false:=by simpa using h0
 by_cases h1:n=1
 ·subst h1;obtain⟨k,hxk,hk2⟩:=Zma (hp rfl);have hT:=kind_at hxk hk2;subst hxk;have hr:=hcv.sign;obtain⟨p,q,rfl,hrr⟩:=hcv.sign;obtain⟨b,o,rfl,hx⟩:=hr.at hk2;have x1:=hx.at 1 rfl;have hb:=Zhr x1;simp only at hb;have n2:b≠w.heap.size:=oM;have HB:=hk.signL;obtain⟨T,hT'⟩:∃T,c.sign[k].kind=T:=⟨_,rfl⟩
  rw[hT']at x1 hT;rw[hT];obtain⟨N,hN⟩:∃N,c.sign.length=N:=⟨_,rfl⟩
  rw[hN]at c1 HB hk2 f1;have f2:(w.alloc (.cells #[.int .i64 K,.int .i64 (k:Int)] 69)).cell? ⟨b,o+k*3+1,none⟩=some (.int .i64 T):=kc (Zhq _ _) x1;have i1:(0:Int)<=(k:Int):=oM;have i2:(k:Int)<(N:Int):=oM;clear hp hcv hcc hr hrr hx hT hT' hN h0 hk;go_enter func132,ntmps132;go_wp2;refine rG (fun v=>v.cell? ⟨C,0,none⟩=some (.slice (some ⟨b,o,none⟩) N q)/\v.cell? ⟨b,o+k*3+1,none⟩=some (.int .i64 T)/\v.cell? ⟨w.heap.size,1,none⟩=some (.int .i64 (k:Int))) fun hHeld=>?_;refine Tf 0 1 2 3 4 5 ?_;refine Tf 6 7 8 9 10 11 ?_;refine Tf 12 13 14 15 16 17 ?_;refine tkT 18 ?_;refine wpAnyH_done kR ?_ _;go_wp2;go_ret;exact⟨Zhu sM,bel (Zhq _ _) (Zhs _)⟩
 ·have h1':(n==1)=false:=by simpa using h1
  clear hp hcv hcc h0 h1;go_enter func132,ntmps132;go_wp2;refine rG (fun v=>v.cell? ⟨C,0,none⟩=some v0) fun hHeld=>?_;refine Tf 0 1 2 3 4 5 ?_;refine Kd 6 7 8 9 ?_;refine Kd 10 11 12 13 ?_;refine tkK 14 ?_;refine tkK 15 ?_;refine Tc 16 17 18 ?_;refine wpAnyH_done kR ?_ _;go_wp2;go_ret;exact⟨Zhu (by simp[h0',h1']),bel (Zhq _ _) (Zhs _)⟩
theorem Zait(C:Nat)(v0 v1 v2 v3:Value)(c:Cd)(hk:CdOk c)(n:Int)(m:Ty)(w:World)(hc:CdAt w C v0 v1 v2 v3 c):
 Calls prog 132 #[.pointer (some ⟨C,0,none⟩),.int .i64 n,.int .i64 10,tyV m] w fun e w'=>e=.returned (.bool (isPl n c.slots.length&&decide (slotT c.slots n=m)))/\Below w.heap.size w w':=by
 obtain⟨hcc,hcv⟩:=hc;have c1:=hcc.at 2 rfl;rw[Nat.zero_add]at c1;have hC:=Zhr c1;simp only at hC;have n1:C≠w.heap.size:=oM;have HB:=hk.slotsL;have K1:=Znh n c.slots.length;have hr:=hcv.slots;obtain⟨p,q,rfl,hrr⟩:=hcv.slots;obtain⟨X,hX⟩:∃X,isPl n c.slots.length=X:=⟨_,rfl⟩
 simp only[hX]at K1;rw[hX];obtain⟨K,P⟩:=m;unfold tyV;simp only;cases X
 ·clear hr hrr hcc hcv;obtain⟨N,hN⟩:∃N,c.slots.length=N:=⟨_,rfl⟩
  rw[hN]at K1 c1 HB;have HK:Hid (∀w,Calls prog 128 #[.int .i64 n,.int .i64 N] w fun e w'=>e=.returned (.bool false)/\w'=w):=K1;clear hN K1 hX hk;have f1:(w.alloc (.cells #[.int .i64 K,.int .i64 P] 69)).cell? ⟨C,2,none⟩=some (.slice p N q):=kc (Zhq _ _) c1;go_enter func132,ntmps132;go_wp2;refine rG (fun v=>v.cell? ⟨C,2,none⟩=some (.slice p N q)) fun hHeld=>?_;exact Zcj
 ·obtain⟨k,hnk,hkl⟩:=Zma hX;rw[Zapw hnk hkl];obtain⟨b,o,hp,hx⟩:=hr.at hkl;subst hp;subst hnk;have x0:=hx.at 0 rfl;have x1:=hx.at 1 rfl;rw[Nat.add_zero]at x0;have hbl:=Zhr x0;simp only at hbl;have n2:b≠w.heap.size:=oM;obtain⟨T,hT⟩:∃T,c.slots[k].ty=T:=⟨_,rfl⟩
  rw[hT]at x0 x1 ⊢;obtain⟨D,E⟩:=T;simp only at x0 x1;rw[ty_eq];obtain⟨N,hN⟩:∃N,c.slots.length=N:=⟨_,rfl⟩
  rw[hN]at K1 c1 HB hkl;have HK:Hid (∀w,Calls prog 128 #[.int .i64 (k:Int),.int .i64 N] w fun e w'=>e=.returned (.bool true)/\w'=w):=K1;have f1:(w.alloc (.cells #[.int .i64 K,.int .i64 P] 69)).cell? ⟨C,2,none⟩=some (.slice (some ⟨b,o,none⟩) N q):=kc (Zhq _ _) c1;have f2:(w.alloc (.cells #[.int .i64 K,.int .i64 P] 69)).cell? ⟨b,o+k*5,none⟩=some (.int .i64 D):=kc (Zhq _ _) x0;have f3:(w.alloc (.cells #[.int .i64 K,.int .i64 P] 69)).cell? ⟨b,o+k*5+1,none⟩=some (.int .i64 E):=kc (Zhq _ _) x1;have i1:(0:Int)<=(k:Int):=oM;have i2:(k:Int)<(N:Int):=oM;clear hN K1 hX hr hrr hcc hcv hx hT hk;cases hl:(D==K)<;>cases hq:(E==P)
  all_goals
   go_enter func132,ntmps132;go_wp2;refine rG (fun v=>v.cell? ⟨C,2,none⟩=some (.slice (some ⟨b,o,none⟩) N q)/\v.cell? ⟨b,o+k*5,none⟩=some (.int .i64 D)/\v.cell? ⟨b,o+k*5+1,none⟩=some (.int .i64 E)/\v.cell? ⟨w.heap.size,0,none⟩=some (.int .i64 K)/\v.cell? ⟨w.heap.size,1,none⟩=some (.int .i64 P)) fun hHeld=>?_;refine Tf 0 1 2 3 4 5 ?_;clear hHeld;refine ry1 6 fun K hK=>?_;go_simp;(go_at_call 128;refine(HK.out _).mono ?_;rintro e w1 ⟨rfl,rfl⟩);try(go_wp2_with fail)
   refine okK hK fun hHeld=>?_;clear hK K;refine Tf 7 8 9 10 11 12 ?_;refine Tf 13 14 15 16 17 18 ?_;refine tkT 19 ?_;refine wpAnyH_done kR ?_ _;go_wp2;go_ret;exact⟨Zhu (by simp[hl,hq]),bel (Zhq _ _) (Zhs _)⟩
theorem Zajc(C:Nat)(v0 v1 v2 v3:Value)(c:Cd)(hk:CdOk c)(n l:Int)(m:Ty)(w:World)(hc:CdAt w C v0 v1 v2 v3 c)(hp:l=9->isPl m.par c.sign.length=true):
 Calls prog 132 #[.pointer (some ⟨C,0,none⟩),.int .i64 n,.int .i64 l,tyV m] w fun e w'=>e=.returned (.bool (Zpe c n l m))/\Below w.heap.size w w':=by
 unfold Zpe;by_cases h8:l=8
 ·subst h8;rw[if_pos rfl];have HK:Hid (∀w,Calls prog 129 #[.int .i64 n] w fun e w'=>e=.returned (.bool (Zls n))/\w'=w):=Zup n;unfold tyV;clear hp hc;go_enter func132,ntmps132;go_wp2_with(go_at_call 129;refine(HK.out _).mono ?_;rintro e w1 ⟨rfl,rfl⟩);go_ret;exact⟨rfl,Zhq _ _⟩
 rw[if_neg h8];by_cases h9:l=9
 ·subst h9;rw[if_pos rfl];exact Zahh C v0 v1 v2 v3 c hk n m w hc fun _=>hp rfl
 rw[if_neg h9];by_cases h10:l=10
 ·subst h10;rw[if_pos rfl];exact Zait C v0 v1 v2 v3 c hk n m w hc
 rw[if_neg h10];have h8':(l==8)=false:=by simpa using h8
 have h9':(l==9)=false:=by simpa using h9
 have h10':(l==10)=false:=by simpa using h10
 clear h8 h9 h10 hp;by_cases h11:l=11
 ·subst h11;rw[if_pos rfl];have K1:=Znh n c.sign.length;have HB:=hk.signL;obtain⟨hcc,hcv⟩:=hc;have c1:=hcc.at 0 rfl;rw[Nat.zero_add]at c1;have hC:=Zhr c1;simp only at hC;have n1:C≠w.heap.size:=oM;obtain⟨p,q,rfl,hrr⟩:=hcv.sign;obtain⟨X,hX⟩:∃X,isPl n c.sign.length=X:=⟨_,rfl⟩
  simp only[hX]at K1;rw[hX];obtain⟨N,hN⟩:∃N,c.sign.length=N:=⟨_,rfl⟩
  rw[hN]at K1 c1 HB;have HK:Hid (∀w,Calls prog 128 #[.int .i64 n,.int .i64 N] w fun e w'=>e=.returned (.bool X)/\w'=w):=K1;clear hN K1 hX hrr hcc hcv hk h8' h9' h10';unfold tyV;go_enter func132,ntmps132;exact Zfk
 rw[if_neg h11];have h11':(l==11)=false:=by simpa using h11
 clear h11 hc;unfold tyV;go_enter func132,ntmps132;go_wp2;go_ret;exact⟨rfl,Zhq _ _⟩
theorem Zacs(C:Nat)(v0 v1 v2 v3:Value)(c:Cd)(hk:CdOk c)(b o:Nat)(i:Ins)(l:Int)(m:Ty)(w:World)(hc:CdAt w C v0 v1 v2 v3 c)(hi:Zhx w b o (inC i))(h0:0<=i.bits)(h1:i.bits<4294967296)(hp:l=9->isPl m.par c.sign.length=true):
 Calls prog 95 #[.pointer (some ⟨C,0,none⟩),.pointer (some ⟨b,o,none⟩),.int .i64 l,tyV m] w fun e w'=>e=.returned (.bool (Zkh c i l m))/\Below w.heap.size w w':=by
 have e5:=hi.at 5 rfl;have e6:=hi.at 6 rfl;have hb:=Zhr e5;simp only at hb;have n1:b≠w.heap.size:=oM;have K1:=Zwq i.bits h0 h1;have K2:=fun w h=>Zajc C v0 v1 v2 v3 c hk i.n l m w h hp;unfold Zkh;obtain⟨X,hX⟩:∃X,Zkn i.bits=X:=⟨_,rfl⟩
 obtain⟨Y,hY⟩:∃Y,Zpe c i.n l m=Y:=⟨_,rfl⟩
 simp only[hX]at K1 ⊢;simp only[hY]at K2 ⊢;obtain⟨bt,hbt⟩:∃x,i.bits=x:=⟨_,rfl⟩
 obtain⟨n,hn⟩:∃x,i.n=x:=⟨_,rfl⟩
 rw[hbt]at e6 K1 ⊢;rw[hn]at e5 K2 ⊢;have HK:Hid (∀w,Calls prog 130 #[.int .u32 bt] w fun e w'=>e=.returned (.bool X)/\w'=w):=K1;obtain⟨K,P⟩:=m;unfold tyV at K2 ⊢;simp only at K2 ⊢;have HN:Hid (∀w,CdAt w C v0 v1 v2 v3 c->Calls prog 132 #[.pointer (some ⟨C,0,none⟩),.int .i64 n,.int .i64 l,.agg #[.int .i64 K,.int .i64 P]] w fun e w'=>e=.returned (.bool Y)/\Below w.heap.size w w'):=K2;have f5:(w.alloc (.cells #[.int .i64 K,.int .i64 P] 69)).cell? ⟨b,o+5,none⟩=some (.int .i64 n):=kc (Zhq _ _) e5;have f6:(w.alloc (.cells #[.int .i64 K,.int .i64 P] 69)).cell? ⟨b,o+6,none⟩=some (.int .u32 bt):=kc (Zhq _ _) e6;have HC0:Hid (CdAt w C v0 v1 v2 v3 c):=hc;clear K1 K2 hX hY hbt hn hi hp h0 h1 hk hc;by_cases h7:l=7
 ·subst h7;rw[if_pos rfl];clear HN;cases hz:(n==0)
  all_goals
   go_enter func95,ntmps95;go_wp2_with(go_at_call 130;refine(HK.out _).mono ?_;rintro e w1 ⟨rfl,rfl⟩);go_ret;exact⟨Zhu (by simp[hz]),Zhq _ _⟩
 rw[if_neg h7];have h7':(l==7)=false:=by simpa using h7
 clear h7 HK;cases hz:(bt==0)
 ·go_enter func95,ntmps95;go_wp2;refine rG (fun v=>v.cell? ⟨b,o+5,none⟩=some (.int .i64 n)/\v.cell? ⟨b,o+6,none⟩=some (.int .u32 bt)) fun hHeld=>?_;refine Tf 0 1 2 3 4 5 ?_;refine Kd 6 7 8 9 ?_;refine Kd 10 11 12 13 ?_;refine Tb 14 15 ?_;refine wpAnyH_done kR ?_ _;go_wp2;go_ret;exact⟨Zhu (by simp[hz]),bel (Zhq _ _) (Zhs _)⟩
 ·go_enter func95,ntmps95;go_wp2;have HC:Hid (∀v,Below (w.alloc (.cells #[.int .i64 K,.int .i64 P] 69)).heap.size (w.alloc (.cells #[.int .i64 K,.int .i64 P] 69)) v->v.cell? ⟨b,o+5,none⟩=some (.int .i64 n)/\v.cell? ⟨b,o+6,none⟩=some (.int .u32 bt)/\v.cell? ⟨w.heap.size,0,none⟩=some (.int .i64 K)/\v.cell? ⟨w.heap.size,1,none⟩=some (.int .i64 P)):=
   fun v hv=>⟨kc hv f5,kc hv f6,kc hv sG,kc hv sG⟩
  refine rG (fun v=>v.cell? ⟨b,o+5,none⟩=some (.int .i64 n)/\v.cell? ⟨b,o+6,none⟩=some (.int .u32 bt)/\v.cell? ⟨w.heap.size,0,none⟩=some (.int .i64 K)/\v.cell? ⟨w.heap.size,1,none⟩=some (.int .i64 P)) fun hHeld=>?_;refine Tf 0 1 2 3 4 5 ?_;refine Tf 6 7 8 9 10 11 ?_;refine tkT 12 ?_;clear hHeld;refine ry1 13 fun K hK=>?_;go_simp;(go_at_call 132;refine(HN.out _ ((HC0.out.below (Zhq _ _)).below (Zhs _))).mono ?_;rintro e w1 ⟨rfl,hb1⟩;have HB1:=bel (Zhs _) hb1;obtain⟨y0,y1,y2,y3⟩:=HC.out w1 HB1);try(go_wp2_with fail)
  refine okK hK fun hHeld=>?_;clear hK K;refine Tb 14 15 ?_;refine wpAnyH_done kR ?_ _;go_wp2;go_ret;exact⟨Zhu (by simp[hz]),bel (Zhq _ _) HB1⟩
theorem Zair(a:Int)(h0:0<=a)(h1:a<4294967296)(w:World):
 Calls prog 158 #[.int .u32 a] w fun e w'=>e=.returned (.tuple #[.bool (decide (2147483648<=a)),.int .i64 (a/8388608%256),.int .i64 (a%8388608)])/\w'=w:=by
 exact Zeo
theorem Zsp{k:IntKind}{a b:Int}(h:a=b):Ending.returned (.int k a)=.returned (.int k b):=by rw[h]
theorem Zsv(a:Int)(h0:0<=a)(h1:a<4294967296)(w:World):
 Calls prog 134 #[.int .u32 a] w fun e w'=>e=.returned (.int .i64 (cls a))/\w'=w:=by
 by_cases c1:a/8388608%256=255
 ·by_cases c2:a%8388608=0
  ·have hc:cls a=4:=by unfold cls;rw[if_pos c1,if_pos c2]
   exact Zbm
  ·have hc:cls a=5:=by unfold cls;rw[if_pos c1,if_neg c2]
   exact Zbm
 ·by_cases c2:a/8388608%256=0
  ·by_cases c3:a%8388608=0
   ·have hc:cls a=1:=by unfold cls;rw[if_neg c1,if_pos c2,if_pos c3]
    exact Zbm
   ·have hc:cls a=2:=by unfold cls;rw[if_neg c1,if_pos c2,if_neg c3]
    exact Zbm
  ·have hc:cls a=3:=by unfold cls;rw[if_neg c1,if_neg c2]
   exact Zbm
theorem ris_any(a:Int)(h0:0<=a)(h1:a<4294967296)(w:World):
 Calls prog 107 #[.int .i64 a] w fun e w'=>e=.returned (.bool (nan a))/\w'=w:=by
 go_enter func107,ntmps107;go_wp2;go_ret;exact⟨rfl,rfl⟩
theorem Zahf(a:Int)(h0:0<=a)(h1:a<4294967296)(hn:nan a=true)(w:World):
 Calls prog 134 #[.int .u32 a] w fun e w'=>e=.returned (.int .i64 5)/\w'=w:=by
 have:=Zsv a h0 h1 w;rwa[Zafn a hn h0 h1]at this
theorem Zmd(a:Int)(h0:0<=a)(h1:a<4294967296)(w:World):
 Calls prog 101 #[.int .u32 a] w fun e w'=>e=.returned (.int .u32 (canon a))/\w'=w:=by
 cases hn:nan a
 ·have hc:canon a=a:=by unfold canon;simp[hn]
  have h5:(cls a==5)=false:=by have:=Zaff a hn h0 h1;simpa using this
  rw[hc];clear hc hn;go_enter func101,ntmps101;go_wp2_with(go_at_call 134;refine(Zsv _ h0 h1 _).mono ?_;rintro e w' ⟨rfl,rfl⟩);go_ret;exact⟨rfl,rfl⟩
 ·have hc:canon a=2143289344:=by unfold canon;simp[hn]
  rw[hc];clear hc;go_enter func101,ntmps101;go_wp2_with(go_at_call 134;refine(Zahf _ h0 h1 hn _).mono ?_;rintro e w' ⟨rfl,rfl⟩);go_ret;exact⟨rfl,rfl⟩
theorem Zpw(a:Int)(h0:0<=a)(h1:a<4294967296)(w:World):
 Calls prog 68 #[.int .i64 a] w fun e w'=>e=.returned (.int .i64 (canon a))/\w'=w:=by
 cases hn:nan a
 ·have hc:canon a=a:=by unfold canon;simp[hn]
  exact Zej
 ·have hc:canon a=2143289344:=by unfold canon;simp[hn]
  exact Zej
end Go.Proofs.YtbinohkcolcbfaaGreat
set_option maxRecDepth 100000
set_option maxHeartbeats 16000000
namespace Go.Proofs.YtbinohkcolcbfaaGreat
open Go.Proofs.Tryz
set_option linter.unusedVariables false
def op2:Option Nat->Int
 |some r=>r
 |none=>2143289344
def fadd(a b:Int):Int:=op2 (Ieee.single.add a.toNat b.toNat)
def fsub(a b:Int):Int:=op2 (Ieee.single.sub a.toNat b.toNat)
def fmul(a b:Int):Int:=op2 (Ieee.single.mul a.toNat b.toNat)
def fdiv(a b:Int):Int:=op2 (Ieee.single.div a.toNat b.toNat)
def Zks(a:Int):Int:=op2 (Ieee.single.sqrt a.toNat)
def Zne(n:Int):Int:=(Ieee.single.nearest (decide (n<0)) n.natAbs 0:Nat)
def fneg(a:Int):Int:=canon (if 2147483648<=a then a-2147483648 else a+2147483648)
def fabs(a:Int):Int:=canon (a%2147483648)
def ord(a b:Int):Option Ordering:=Ieee.single.order a.toNat b.toNat
def fmin(a b:Int):Int:=match ord a b with
 |none=>2143289344
 |some .lt=>a
 |some .gt=>b
 |some .eq=>if 2147483648<=a then a else b
def fmax(a b:Int):Int:=match ord a b with
 |none=>2143289344
 |some .lt=>b
 |some .gt=>a
 |some .eq=>if 2147483648<=a then b else a
def Zpd(a b:Int):Bool:=ord a b==some .lt
def feq(a b:Int):Bool:=ord a b==some .eq
def ffin(a:Int):Bool:=decide (a%2147483648<2139095040)
def fsel(c a b:Int):Int:=if nan c||c%2147483648==0 then canon b else canon a
theorem rg_wd(s:Bool)(r:Nat):rg (wd s r)=min r 2139095040:=by
 unfold rg wd;split<;>omega
theorem Zzq(d:Ieee.Datum)(h:d.isNaN=false):rg (Ieee.single.write d)<=2139095040:=by
 cases d with
 |number s m e=>show rg (Ieee.single.nearest s m e)<=_;rw[Zjw,Zrv,rg_wd];omega
 |infinity s=>show rg (wd s 2139095040)<=_;rw[rg_wd];omega
 |nan s t=>simp[Ieee.Datum.isNaN]at h
theorem Zaen{d e f:Ieee.Datum}(h:d.sum e=some f):f.isNaN=false:=by
 cases d<;>cases e<;>simp[Ieee.Datum.sum]at h<;>first|(subst h;rfl)|(obtain⟨_,rfl⟩:=h;rfl)
theorem Zans{d e f:Ieee.Datum}(h:d.product e=some f):f.isNaN=false:=by
 cases d<;>cases e<;>simp[Ieee.Datum.product]at h<;>first|(subst h;rfl)|(obtain⟨_,rfl⟩:=h;rfl)
theorem Zaps{k:Nat}{d e f:Ieee.Datum}(h:d.quotient k e=some f):f.isNaN=false:=by
 cases d<;>cases e<;>simp[Ieee.Datum.quotient]at h
 ·split at h
  ·split at h
   ·cases h
   ·cases h;rfl
  ·cases h;rfl
 ·subst h;rfl
 ·subst h;rfl
theorem Zane{k:Nat}{d f:Ieee.Datum}(h:d.root k=some f):f.isNaN=false:=by
 cases d<;>simp[Ieee.Datum.root]at h
 ·split at h
  ·cases h;rfl
  ·split at h
   ·cases h
   ·simp only[Option.some.injEq]at h;subst h;rfl
 ·obtain⟨-,rfl⟩:=h;rfl
theorem Zsc{o:Option Ieee.Datum}{r:Nat}(h:o.map Ieee.single.write=some r)(k:∀f,o=some f->f.isNaN=false):rg r<=2139095040/\r<4294967296:=by
 have lt:=Ieee.single.map_write_lt h;cases o with
 |none=>simp at h
 |some d=>simp only[Option.map_some,Option.some.injEq]at h;subst h;exact⟨Zzq d (k d rfl),lt⟩
theorem Zxh{x y r:Nat}(h:Ieee.single.add x y=some r):rg r<=2139095040/\r<4294967296:=Zsc h fun _ q=>Zaen q
theorem Zxc{x y r:Nat}(h:Ieee.single.sub x y=some r):rg r<=2139095040/\r<4294967296:=Zsc h fun _ q=>Zaen q
theorem Zxu{x y r:Nat}(h:Ieee.single.mul x y=some r):rg r<=2139095040/\r<4294967296:=Zsc h fun _ q=>Zans q
theorem Zxa{x y r:Nat}(h:Ieee.single.div x y=some r):rg r<=2139095040/\r<4294967296:=Zsc h fun _ q=>Zaps q
theorem Zuw{x r:Nat}(h:Ieee.single.sqrt x=some r):rg r<=2139095040/\r<4294967296:=Zsc h fun _ q=>Zane q
theorem Zaew(r:Nat):nan (r:Int)=decide (2139095040<rg r):=by unfold nan rg;rw[decide_eq_decide];omega
theorem Zlp{r:Nat}(h:rg r<=2139095040):canon (r:Int)=r:=by
 unfold canon;rw[Zaew];simp;omega
theorem Znc{r:Nat}(h:2139095040<rg r):canon (r:Int)=2143289344:=by
 unfold canon;rw[Zaew];simp;omega
theorem Zub(x y t:Nat):2139095040<rg ((Question.nanBits .f32 x y).cut t)/\(Question.nanBits .f32 x y).cut t<4294967296:=by
 have e:(Question.nanBits .f32 x y).cut t=t%2*2147483648+2139095040+1+t/2%8388607:=rfl;exact Zcv
theorem Zaah(x t:Nat):2139095040<rg ((Question.nanConv .f32 x).cut t)/\(Question.nanConv .f32 x).cut t<4294967296:=by
 have e:(Question.nanConv .f32 x).cut t=t%2*2147483648+2139095040+1+t/2%8388607:=rfl;exact Zcv
theorem Zwa(m:Bool)(x y t:Nat):2139095040<rg ((Question.nanMinMax .f32 m x y).cut t)/\(Question.nanMinMax .f32 m x y).cut t<4294967296:=by
 have e:(Question.nanMinMax .f32 m x y).cut t=t%2*2147483648+2139095040+1+t/2%8388607:=rfl;exact Zcv
section
variable {P : Program} (w : World)
theorem Znm(op:BinOp)(t:TypeId)(k:FloatKind)(x y:Nat)(hop:op=.add\/op=.sub\/op=.mul\/op=.quo)(h:floatBits op k x y=none):
 (binOp op t (.float k x) (.float k y)).run P w=.ok (.float k ((Question.nanBits k x y).cut (w.tape w.drawn (.nanBits k x y)))) w.drew:=by
 rcases hop with rfl|rfl|rfl|rfl<;>simp only[floatBits]at h<;>simp[binOp,Op.floatArith,h,choose,Sem.run,Question.forced]
end
theorem Ztp(o:Option Nat)(h:∀r,o=some r->r<4294967296):0<=op2 o/\op2 o<4294967296:=by
 cases o with
 |none=>decide
 |some r=>have:=h r rfl;show 0<=(r:Int)/\(r:Int)<_;omega
theorem Zagd(a b:Int):0<=fadd a b/\fadd a b<4294967296:=Ztp _ fun _ h=>(Zxh h).2
theorem fsub_lo(a b:Int):0<=fsub a b/\fsub a b<4294967296:=Ztp _ fun _ h=>(Zxc h).2
theorem Znd(a b:Int):0<=fmul a b/\fmul a b<4294967296:=Ztp _ fun _ h=>(Zxu h).2
theorem fdiv_lo(a b:Int):0<=fdiv a b/\fdiv a b<4294967296:=Ztp _ fun _ h=>(Zxa h).2
theorem Zaoj(a:Int):0<=Zks a/\Zks a<4294967296:=Ztp _ fun _ h=>(Zuw h).2
end Go.Proofs.YtbinohkcolcbfaaGreat
namespace Go.Proofs.YtbinohkcolcbfaaGreat
open Go.RowKit Go.Proofs.Tryz
set_option linter.unusedVariables false
set_option linter.unusedSimpArgs false
set_option maxRecDepth 100000
set_option maxHeartbeats 16000000
theorem belV{a b c:World}(h:Below a.heap.size a b)(k:Below b.heap.size b c):Below a.heap.size a c:=h.trans (k.mono h.size)
theorem Zkp(w:World):Below w.heap.size w w:=Below.refl _ _
end Go.Proofs.YtbinohkcolcbfaaGreat
set_option maxRecDepth 100000
set_option maxHeartbeats 16000000
namespace Go.Proofs.YtbinohkcolcbfaaGreat
open Go.RowKit Go.Proofs.Tryz
set_option linter.unusedVariables false
theorem belD(w:World):Below w.heap.size w w.drew:=(Below.refl _ _).drew
theorem Zali(a:Int)(w:World):(callFunc 189 #[.int .u32 a]).run prog w=.ok (.value (.float .f32 a.toNat)) w:=by
 rw[run_callFunc_extern (e:=Extern.MathFloatBits.float32frombits) func189 kR kR kR kR];rfl
theorem to_bits(b:Nat)(w:World):(callFunc 163 #[.float .f32 b]).run prog w=.ok (.value (.int .u32 b)) w:=by
 rw[run_callFunc_extern (e:=Extern.MathFloatBits.float32bits) func163 kR kR kR kR];rfl
theorem Zlu(a:Int)(h0:0<=a)(h1:a<4294967296)(w:World):
 Calls prog 162 #[.int .u32 a] w fun e w'=>e=.returned (.float .f32 a.toNat)/\w'=w:=by
 have hx:=Zali a w;go_enter func162,ntmps162;go_wp2;go_ret;exact⟨rfl,rfl⟩
theorem Zkm(b:Nat)(h1:b<4294967296)(w:World):
 Calls prog 140 #[.float .f32 b] w fun e w'=>e=.returned (.int .u32 (canon b))/\w'=w:=by
 have hx:=to_bits b w;go_enter func140,ntmps140;exact Zfj
theorem Zagg(a:Int)(h0:0<=a)(h1:a<4294967296)(b:Int)(g0:0<=b)(g1:b<4294967296)(w:World):
 Calls prog 142 #[.int .u32 a,.int .u32 b] w fun e w'=>e=.returned (.int .u32 (fadd a b))/\Below w.heap.size w w':=by
 unfold fadd;cases hr:Ieee.single.add a.toNat b.toNat with
 |none=>
  have hx:=Znm (P:=prog) w .add 208 .f32 a.toNat b.toNat sM hr;have hn:=Zub a.toNat b.toNat (w.tape w.drawn (.nanBits .f32 a.toNat b.toNat));generalize (Question.nanBits .f32 a.toNat b.toNat).cut (w.tape w.drawn (.nanBits .f32 a.toNat b.toNat))=z at *;have hc:=Znc hn.1;have hz:=hn.2;clear hr hn;go_enter func142,ntmps142;exact Zbg
 |some z=>
  have hx:=run_float_arith (P:=prog) w .add 208 .f32 a.toNat b.toNat z hr;have hn:=Zxh hr;have hc:=Zlp hn.1;have hz:=hn.2;clear hr hn;go_enter func142,ntmps142;exact Zbu
theorem sub_any(a:Int)(h0:0<=a)(h1:a<4294967296)(b:Int)(g0:0<=b)(g1:b<4294967296)(w:World):
 Calls prog 172 #[.int .u32 a,.int .u32 b] w fun e w'=>e=.returned (.int .u32 (fsub a b))/\Below w.heap.size w w':=by
 unfold fsub;cases hr:Ieee.single.sub a.toNat b.toNat with
 |none=>
  have hx:=Znm (P:=prog) w .sub 208 .f32 a.toNat b.toNat sM hr;have hn:=Zub a.toNat b.toNat (w.tape w.drawn (.nanBits .f32 a.toNat b.toNat));generalize (Question.nanBits .f32 a.toNat b.toNat).cut (w.tape w.drawn (.nanBits .f32 a.toNat b.toNat))=z at *;have hc:=Znc hn.1;have hz:=hn.2;clear hr hn;go_enter func172,ntmps172;exact Zbg
 |some z=>
  have hx:=run_float_arith (P:=prog) w .sub 208 .f32 a.toNat b.toNat z hr;have hn:=Zxc hr;have hc:=Zlp hn.1;have hz:=hn.2;clear hr hn;go_enter func172,ntmps172;exact Zbu
theorem Zwz(a:Int)(h0:0<=a)(h1:a<4294967296)(b:Int)(g0:0<=b)(g1:b<4294967296)(w:World):
 Calls prog 139 #[.int .u32 a,.int .u32 b] w fun e w'=>e=.returned (.int .u32 (fmul a b))/\Below w.heap.size w w':=by
 unfold fmul;cases hr:Ieee.single.mul a.toNat b.toNat with
 |none=>
  have hx:=Znm (P:=prog) w .mul 208 .f32 a.toNat b.toNat sM hr;have hn:=Zub a.toNat b.toNat (w.tape w.drawn (.nanBits .f32 a.toNat b.toNat));generalize (Question.nanBits .f32 a.toNat b.toNat).cut (w.tape w.drawn (.nanBits .f32 a.toNat b.toNat))=z at *;have hc:=Znc hn.1;have hz:=hn.2;clear hr hn;go_enter func139,ntmps139;exact Zbg
 |some z=>
  have hx:=run_float_arith (P:=prog) w .mul 208 .f32 a.toNat b.toNat z hr;have hn:=Zxu hr;have hc:=Zlp hn.1;have hz:=hn.2;clear hr hn;go_enter func139,ntmps139;exact Zbu
theorem div_any(a:Int)(h0:0<=a)(h1:a<4294967296)(b:Int)(g0:0<=b)(g1:b<4294967296)(w:World):
 Calls prog 173 #[.int .u32 a,.int .u32 b] w fun e w'=>e=.returned (.int .u32 (fdiv a b))/\Below w.heap.size w w':=by
 unfold fdiv;cases hr:Ieee.single.div a.toNat b.toNat with
 |none=>
  have hx:=Znm (P:=prog) w .quo 208 .f32 a.toNat b.toNat sM hr;have hn:=Zub a.toNat b.toNat (w.tape w.drawn (.nanBits .f32 a.toNat b.toNat));generalize (Question.nanBits .f32 a.toNat b.toNat).cut (w.tape w.drawn (.nanBits .f32 a.toNat b.toNat))=z at *;have hc:=Znc hn.1;have hz:=hn.2;clear hr hn;go_enter func173,ntmps173;exact Zbg
 |some z=>
  have hx:=run_float_arith (P:=prog) w .quo 208 .f32 a.toNat b.toNat z hr;have hn:=Zxa hr;have hc:=Zlp hn.1;have hz:=hn.2;clear hr hn;go_enter func173,ntmps173;exact Zbu
theorem Zun(n:Nat)(h:n<2^31):n^^^2^31=2^31+n:=by
 apply Nat.eq_of_testBit_eq;intro i;rw[Nat.testBit_xor,Nat.testBit_two_pow];rcases Nat.lt_trichotomy i 31 with c|c|c
 ·rw[Nat.testBit_two_pow_add_gt c,decide_eq_false (show¬ (31=i) by omega),Bool.xor_false]
 ·subst c;rw[Nat.testBit_two_pow_add_eq];simp
 ·have e1:n.testBit i=false:=Nat.testBit_lt_two_pow (Nat.lt_of_lt_of_le h (Nat.pow_le_pow_right dE oM));have e2:(2^31+n).testBit i=false:=Nat.testBit_lt_two_pow (Nat.lt_of_lt_of_le (show 2^31+n<2^32 by omega) (Nat.pow_le_pow_right dE oM));rw[e1,e2,decide_eq_false (show¬ (31=i) by omega),Bool.xor_false]
theorem Zabc(a:Int)(h0:0<=a)(h1:a<4294967296):bits .xor .u32 a 2147483648=if 2147483648<=a then a-2147483648 else a+2147483648:=by
 rw[u32_xor a _ h0 h1 dE dE,show(2147483648:Int).toNat=2^31 from rfl];by_cases c:2147483648<=a
 ·rw[if_pos c];have e:=Zun (a.toNat-2^31) oM;rw[show 2^31+(a.toNat-2^31)=a.toNat by omega]at e;rw[←e,Nat.xor_assoc,Nat.xor_self,Nat.xor_zero];omega
 ·rw[if_neg c,Zun _ oM];omega
theorem neg_any(a:Int)(h0:0<=a)(h1:a<4294967296)(w:World):
 Calls prog 166 #[.int .u32 a] w fun e w'=>e=.returned (.int .u32 (fneg a))/\w'=w:=by
 unfold fneg;have e1:=Zabc a h0 h1;have hb:0<=(if 2147483648<=a then a-2147483648 else a+2147483648)/\(if 2147483648<=a then a-2147483648 else a+2147483648)<4294967296:=by split<;>omega
 generalize (if 2147483648<=a then a-2147483648 else a+2147483648)=z at *;go_enter func166,ntmps166;go_wp2_with(go_at_call 101;refine(Zmd _ hb.1 hb.2 _).mono ?_;rintro e w' ⟨rfl,rfl⟩);go_ret;exact⟨rfl,rfl⟩
theorem abs_any(a:Int)(h0:0<=a)(h1:a<4294967296)(w:World):
 Calls prog 167 #[.int .u32 a] w fun e w'=>e=.returned (.int .u32 (fabs a))/\w'=w:=by
 unfold fabs;have e1:=Zyf a h0 h1;go_enter func167,ntmps167;exact Zfj
theorem Zaor(a:Int)(h0:0<=a)(h1:a<4294967296)(b:Int)(g0:0<=b)(g1:b<4294967296)(w:World):
 Calls prog 176 #[.int .u32 a,.int .u32 b] w fun e w'=>e=.returned (.bool (Zpd a b))/\w'=w:=by
 go_enter func176,ntmps176;go_wp2_with(go_at_call 162;refine(Zlu _ oM oM _).mono ?_;rintro e w' ⟨rfl,rfl⟩);go_ret;exact⟨rfl,rfl⟩
theorem Zanj(a:Int)(h0:0<=a)(h1:a<4294967296):ffin a=((cls a != 4)&&(cls a != 5)):=by
 unfold ffin cls;by_cases c:a/8388608%256=255
 ·rw[if_pos c];have:¬ (a%2147483648<2139095040):=oM;by_cases d:a%8388608=0<;>simp[this,d]
 ·rw[if_neg c];have:a%2147483648<2139095040:=oM;simp only[this,decide_true];split<;>(try split)<;>simp
theorem Zacl(a k:Int)(hk:cls a=k)(h0:0<=a)(h1:a<4294967296)(w:World):
 Calls prog 134 #[.int .u32 a] w fun e w'=>e=.returned (.int .i64 k)/\w'=w:=by
 subst hk;exact Zsv a h0 h1 w
theorem Zagl(a:Int)(h0:0<=a)(h1:a<4294967296)(w:World):
 Calls prog 170 #[.int .u32 a] w fun e w'=>e=.returned (.bool (ffin a))/\w'=w:=by
 rw[Zanj a h0 h1];have hc:cls a=4\/cls a=5\/cls a=1\/cls a=2\/cls a=3:=by
  unfold cls;split<;>split<;>(try split)<;>simp
 rcases hc with hc|hc|hc|hc|hc<;>rw[hc]
 all_goals(
  go_enter func170,ntmps170;go_wp2_with(go_at_call 134;refine(Zacl _ _ hc h0 h1 _).mono ?_;rintro e w' ⟨rfl,rfl⟩);go_ret
  exact⟨rfl,rfl⟩)
theorem Zaru(n:Int):canon ((floatOfInt .f32 n:Nat):Int)=Zne n:=Zlp (Zzq (.number (decide (n<0)) n.natAbs 0) rfl)
theorem Zanz(n:Int):floatOfInt .f32 n<4294967296:=Ieee.single.write_lt (.number (decide (n<0)) n.natAbs 0)
theorem Zant(n:Int):0<=Zne n/\Zne n<4294967296:=⟨Int.natCast_nonneg _,by have:=Ieee.single.write_lt (.number (decide (n<0)) n.natAbs 0);exact Int.ofNat_lt.2 this⟩
theorem Zapx(n:Int)(h0: -9223372036854775808<=n)(h1:n<=9223372036854775807)(w:World):
 Calls prog 110 #[.int .i64 n] w fun e w'=>e=.returned (.int .u32 (Zne n))/\w'=w:=by
 have hx:=Zaru n;have hl:=Zanz n;go_enter func110,ntmps110;go_wp2_with(go_at_call 140;refine(Zkm _ hl _).mono ?_;rintro e w' ⟨rfl,rfl⟩);go_ret;exact⟨rfl,rfl⟩
theorem Zws(c:Int)(e0:0<=c)(e1:c<4294967296)(a:Int)(h0:0<=a)(h1:a<4294967296)(b:Int)(g0:0<=b)(g1:b<4294967296)(w:World):
 Calls prog 144 #[.int .u32 c,.int .u32 a,.int .u32 b] w fun e w'=>e=.returned (.int .u32 (fsel c a b))/\w'=w:=by
 have hs:fsel c a b=if cls c=1\/cls c=5 then canon b else canon a:=by
  unfold fsel nan cls;by_cases c1:c/8388608%256=255
  ·by_cases c2:c%8388608=0
   ·have k1:¬ (2139095040<c%2147483648):=oM;have k2:¬ (c%2147483648=0):=oM;simp[c1,c2,k1,k2]
   ·have k1:2139095040<c%2147483648:=oM;simp[c1,c2,k1]
  ·by_cases c2:c/8388608%256=0
   ·by_cases c3:c%8388608=0
    ·have k2:c%2147483648=0:=oM;simp[c2,c3,k2]
    ·have k1:¬ (2139095040<c%2147483648):=oM;have k2:¬ (c%2147483648=0):=oM;simp[c2,c3,k1,k2]
   ·have k1:¬ (2139095040<c%2147483648):=oM;have k2:¬ (c%2147483648=0):=oM;simp[c1,c2,k1,k2]
 rw[hs];have hc:cls c=4\/cls c=5\/cls c=1\/cls c=2\/cls c=3:=by
  unfold cls;split<;>split<;>(try split)<;>simp
 rcases hc with hc|hc|hc|hc|hc<;>rw[hc]
 all_goals(
  go_enter func144,ntmps144;go_wp2_with(first
   |(go_at_call 134;refine(Zacl _ _ hc e0 e1 _).mono ?_;rintro e w' ⟨rfl,rfl⟩)
   |(go_at_call 101;refine(Zmd _ oM oM _).mono ?_;rintro e w' ⟨rfl,rfl⟩))
  go_ret
  exact⟨rfl,rfl⟩)
section
variable {P : Program} (w : World)
theorem Zaam(ts:Array TypeId)(t:TypeId)(x y:Nat)(h:Ieee.single.order x y=none):
 (Builtin.min_ ts t #[.float .f32 x,.float .f32 y]).run P w=.ok (.float .f32 ((Question.nanMinMax .f32 false x y).cut (w.tape w.drawn (.nanMinMax .f32 false x y)))) w.drew:=by
 have h':FloatKind.f32.format.order x y=none:=h;simp[Builtin.min_,Builtin.min2,h',choose,Sem.run,Question.forced]
theorem Zabv(ts:Array TypeId)(t:TypeId)(x y:Nat)(h:Ieee.single.order x y=none):
 (Builtin.max_ ts t #[.float .f32 x,.float .f32 y]).run P w=.ok (.float .f32 ((Question.nanMinMax .f32 true x y).cut (w.tape w.drawn (.nanMinMax .f32 true x y)))) w.drew:=by
 have h':FloatKind.f32.format.order x y=none:=h;simp[Builtin.max_,Builtin.max2,h',choose,Sem.run,Question.forced]
theorem Zaja(ts:Array TypeId)(t:TypeId)(x y:Nat)(h:Ieee.single.order x y=some .lt):(Builtin.min_ ts t #[.float .f32 x,.float .f32 y]).run P w=.ok (.float .f32 x) w:=by
 have h':FloatKind.f32.format.order x y=some .lt:=h;simp[Builtin.min_,Builtin.min2,h']
theorem Zahx(ts:Array TypeId)(t:TypeId)(x y:Nat)(h:Ieee.single.order x y=some .gt):(Builtin.min_ ts t #[.float .f32 x,.float .f32 y]).run P w=.ok (.float .f32 y) w:=by
 have h':FloatKind.f32.format.order x y=some .gt:=h;simp[Builtin.min_,Builtin.min2,h']
theorem Zaih(ts:Array TypeId)(t:TypeId)(x y:Nat)(h:Ieee.single.order x y=some .eq):(Builtin.min_ ts t #[.float .f32 x,.float .f32 y]).run P w=.ok (.float .f32 (if(Ieee.single.read x).neg then x else y)) w:=by
 have h':FloatKind.f32.format.order x y=some .eq:=h;have h2:FloatKind.f32.decode x=Ieee.single.read x:=rfl;simp[Builtin.min_,Builtin.min2,h',h2]
theorem Zagp(ts:Array TypeId)(t:TypeId)(x y:Nat)(h:Ieee.single.order x y=some .lt):(Builtin.max_ ts t #[.float .f32 x,.float .f32 y]).run P w=.ok (.float .f32 y) w:=by
 have h':FloatKind.f32.format.order x y=some .lt:=h;simp[Builtin.max_,Builtin.max2,h']
theorem Zagq(ts:Array TypeId)(t:TypeId)(x y:Nat)(h:Ieee.single.order x y=some .gt):(Builtin.max_ ts t #[.float .f32 x,.float .f32 y]).run P w=.ok (.float .f32 x) w:=by
 have h':FloatKind.f32.format.order x y=some .gt:=h;simp[Builtin.max_,Builtin.max2,h']
theorem Zahi(ts:Array TypeId)(t:TypeId)(x y:Nat)(h:Ieee.single.order x y=some .eq):(Builtin.max_ ts t #[.float .f32 x,.float .f32 y]).run P w=.ok (.float .f32 (if(Ieee.single.read x).neg then y else x)) w:=by
 have h':FloatKind.f32.format.order x y=some .eq:=h;have h2:FloatKind.f32.decode x=Ieee.single.read x:=rfl;simp[Builtin.max_,Builtin.max2,h',h2]
end
theorem Zadb(x:Nat):(Ieee.single.read x).neg=ng x:=by
 rw[Zml];split
 ·rfl
 ·split
  ·rfl
  ·split<;>rfl
theorem ng_le(a:Int)(h0:0<=a)(h1:a<4294967296):ng a.toNat=decide (2147483648<=a):=by
 unfold ng;by_cases c:2147483648<=a<;>simp[c]<;>omega
theorem Zkj{x y:Nat}{o:Ordering}(h:Ieee.single.order x y=some o):rg x<=2139095040/\rg y<=2139095040:=by
 unfold Ieee.Format.order at h;constructor
 ·rcases Nat.lt_or_ge 2139095040 (rg x)with c|c
  ·rw[Zli x c]at h;cases hy:Ieee.single.read y<;>rw[hy]at h<;>simp[Ieee.Datum.order]at h
  ·exact c
 ·rcases Nat.lt_or_ge 2139095040 (rg y)with c|c
  ·rw[Zli y c]at h;cases hx:Ieee.single.read x<;>rw[hx]at h<;>simp[Ieee.Datum.order]at h
  ·exact c
theorem Zjt{a:Int}(h0:0<=a)(h:rg a.toNat<=2139095040):canon (max a 0)=a:=by
 have:=Zlp h;rw[show((a.toNat:Nat):Int)=max a 0 by omega]at this;omega
theorem Zafg(a:Int)(h0:0<=a)(h1:a<4294967296)(b:Int)(g0:0<=b)(g1:b<4294967296)(w:World):
 Calls prog 143 #[.int .u32 a,.int .u32 b] w fun e w'=>e=.returned (.int .u32 (fmin a b))/\Below w.heap.size w w':=by
 have ha:a.toNat<4294967296:=oM;have hb:b.toNat<4294967296:=oM;unfold fmin ord;rcases hr:Ieee.single.order a.toNat b.toNat with _|(_|_|_)<;>simp only []
 ·have hx:=Zaam (P:=prog) w #[208,208] 208 a.toNat b.toNat hr;have hn:=Zwa false a.toNat b.toNat (w.tape w.drawn (.nanMinMax .f32 false a.toNat b.toNat));generalize (Question.nanMinMax .f32 false a.toNat b.toNat).cut (w.tape w.drawn (.nanMinMax .f32 false a.toNat b.toNat))=z at *;have hc:=Znc hn.1;have hz:=hn.2;clear hr hn;go_enter func143,ntmps143;exact Zbg
 ·have hx:=Zaja (P:=prog) w #[208,208] 208 a.toNat b.toNat hr;have hca:=Zjt h0 (Zkj hr).1;have hcb:=Zjt g0 (Zkj hr).2;clear hr;go_enter func143,ntmps143;exact Zbr
 ·have hx:=Zaih (P:=prog) w #[208,208] 208 a.toNat b.toNat hr;have hca:=Zjt h0 (Zkj hr).1;have hcb:=Zjt g0 (Zkj hr).2;rw[Zadb,ng_le a h0 h1]at hx;clear hr;by_cases c:2147483648<=a<;>simp only[c,decide_true,decide_false,if_true,if_false,Bool.false_eq_true]at hx ⊢
  all_goals(
   go_enter func143,ntmps143;go_wp2_with(first
    |(go_at_call 162;refine(Zlu _ oM oM _).mono ?_;rintro e w' ⟨rfl,rfl⟩)
    |(go_at_call 140;refine(Zkm _ (by assumption) _).mono ?_;rintro e w' ⟨rfl,rfl⟩))
   go_ret
   exact⟨rfl,Zkp _⟩)
 ·have hx:=Zahx (P:=prog) w #[208,208] 208 a.toNat b.toNat hr;have hca:=Zjt h0 (Zkj hr).1;have hcb:=Zjt g0 (Zkj hr).2;clear hr;go_enter func143,ntmps143;exact Zbr
theorem max_any(a:Int)(h0:0<=a)(h1:a<4294967296)(b:Int)(g0:0<=b)(g1:b<4294967296)(w:World):
 Calls prog 174 #[.int .u32 a,.int .u32 b] w fun e w'=>e=.returned (.int .u32 (fmax a b))/\Below w.heap.size w w':=by
 have ha:a.toNat<4294967296:=oM;have hb:b.toNat<4294967296:=oM;unfold fmax ord;rcases hr:Ieee.single.order a.toNat b.toNat with _|(_|_|_)<;>simp only []
 ·have hx:=Zabv (P:=prog) w #[208,208] 208 a.toNat b.toNat hr;have hn:=Zwa true a.toNat b.toNat (w.tape w.drawn (.nanMinMax .f32 true a.toNat b.toNat));generalize (Question.nanMinMax .f32 true a.toNat b.toNat).cut (w.tape w.drawn (.nanMinMax .f32 true a.toNat b.toNat))=z at *;have hc:=Znc hn.1;have hz:=hn.2;clear hr hn;go_enter func174,ntmps174;exact Zbg
 ·have hx:=Zagp (P:=prog) w #[208,208] 208 a.toNat b.toNat hr;have hca:=Zjt h0 (Zkj hr).1;have hcb:=Zjt g0 (Zkj hr).2;clear hr;go_enter func174,ntmps174;exact Zbr
 ·have hx:=Zahi (P:=prog) w #[208,208] 208 a.toNat b.toNat hr;have hca:=Zjt h0 (Zkj hr).1;have hcb:=Zjt g0 (Zkj hr).2;rw[Zadb,ng_le a h0 h1]at hx;clear hr;by_cases c:2147483648<=a<;>simp only[c,decide_true,decide_false,if_true,if_false,Bool.false_eq_true]at hx ⊢
  all_goals(
   go_enter func174,ntmps174;go_wp2_with(first
    |(go_at_call 162;refine(Zlu _ oM oM _).mono ?_;rintro e w' ⟨rfl,rfl⟩)
    |(go_at_call 140;refine(Zkm _ (by assumption) _).mono ?_;rintro e w' ⟨rfl,rfl⟩))
   go_ret
   exact⟨rfl,Zkp _⟩)
 ·have hx:=Zagq (P:=prog) w #[208,208] 208 a.toNat b.toNat hr;have hca:=Zjt h0 (Zkj hr).1;have hcb:=Zjt g0 (Zkj hr).2;clear hr;go_enter func174,ntmps174;exact Zbr
end Go.Proofs.YtbinohkcolcbfaaGreat
set_option maxRecDepth 100000
set_option maxHeartbeats 16000000
namespace Go.Proofs.YtbinohkcolcbfaaGreat
open Go.RowKit Go.Proofs.Tryz
set_option linter.unusedVariables false
theorem Zuv(a:Nat)(ha:rg a<2139095040)(hs:ng a=false)(h0:mg a≠0):
 ∃r,Ieee.single.sqrt a=some (wd false r)/\Zlv 23 (mv a*2^149) r:=by
 unfold Ieee.Format.sqrt;rw[Zjy a ha,hs];simp only[Ieee.Datum.root,if_neg h0,Bool.false_eq_true,if_false,Option.map_some,Ieee.Format.write];rw[Zjw,Zmb,Zkr];have hl:(mg a).log2<=23:=by
  have:(mg a).log2<24:=(Nat.log2_lt h0).2 (mg_lt a);omega
 generalize hi:(-149+(te a:Int))=i;generalize hm1:2*(23+2)-(mg a).log2=more1;generalize hmore:more1+((i-(more1:Int))%2).toNat=more;have hpar:(i-(more:Int))%2=0:=oM;have hmo:27<=more/\more<=51:=oM;generalize hn:mg a<<<more=n at *;have hlo:2^(mg a).log2<=mg a:=Nat.log2_self_le h0;have hn50:2^50<=n:=by
  rw[←hn,Nat.shiftLeft_eq]
  calc 2^50<=2^((mg a).log2+more):=Nat.pow_le_pow_right dE oM
   _=2^(mg a).log2*2^more:=Nat.pow_add ..
   _<=mg a*2^more:=Nat.mul_le_mul_right _ hlo
 have hrt:=Zri n (n.log2/2+1) 0 oM (by
  have:n<2^(n.log2+1):=Nat.lt_log2_self;rw[Nat.zero_add,←Nat.pow_add]
  exact Nat.lt_of_lt_of_le this (Nat.pow_le_pow_right dE oM))
 generalize Ieee.Datum.rootFrom n (n.log2/2+1) 0=w at *;have hw:2^24<=w:=by
  rcases Nat.lt_or_ge w (2^24)with c|c
  ·exfalso;have:=Nat.mul_self_le_mul_self (show w+1<=2^24 from c);have e:(2:Nat)^24*2^24<2^50:=dE;omega
  ·exact c
 have big:23+2<=(2*w+(w*w != n).toNat).log2:=by
  apply(Nat.le_log2 oM).2;omega
 refine⟨_,rfl,?_⟩;obtain⟨x,hx⟩:∃x:Nat,(x:Int)=(i-(more:Int))/2+149:=⟨((i-(more:Int))/2+149).toNat,oM⟩
 have hnr:=Ztk 23 (-149) w n ((i-(more:Int))/2-1) dE hrt.1 hrt.2 big x oM;have e:n*(2^x*2^x)=mv a*2^149:=by
  rw[Zpr,←hn,Nat.shiftLeft_eq,←Nat.pow_add,Nat.mul_assoc,Nat.mul_assoc,←Nat.pow_add,←Nat.pow_add];congr 2;omega
 rw[e]at hnr;exact hnr
theorem Zalf(f:Ieee.Format)(hb:f.binade<=f.infRung)(x:Nat)(h:f.infRung<x%f.signWeight):f.read x=.nan (x/f.signWeight%2==1) (x%f.signWeight-f.infRung):=by
 unfold Ieee.Format.read;simp only [];rw[if_neg oM,if_neg oM,if_neg oM]
theorem Zyk(x y t:Nat):Ieee.double.infRung<(Question.nanBits .f64 x y).cut t%Ieee.double.signWeight:=by
 have e:(Question.nanBits .f64 x y).cut t=t%2*9223372036854775808+9218868437227405312+1+t/2%4503599627370495:=rfl;have e1:Ieee.double.infRung=9218868437227405312:=rfl;have e2:Ieee.double.signWeight=9223372036854775808:=rfl;have h2:t%2=0\/t%2=1:=oM;have h3:=Nat.mod_lt (t/2) (show 0<4503599627370495 by decide);rw[e,e1,e2];generalize t/2%4503599627370495=q at *;rcases h2 with h|h<;>rw[h]<;>omega
theorem Zagz(x t:Nat):Ieee.double.infRung<(Question.nanConv .f64 x).cut t%Ieee.double.signWeight:=Zyk 0 0 t
theorem Zwg(x:Nat)(h:Ieee.double.infRung<x%Ieee.double.signWeight):∃s f,FloatKind.f64.decode x=.nan s f:=⟨_,_,Zalf Ieee.double dE x h⟩
theorem Zvq(x:Nat)(h:Ieee.double.infRung<x%Ieee.double.signWeight):Ieee.double.sqrt x=none:=by
 obtain⟨s,f,e⟩:=Zwg x h;unfold Ieee.Format.sqrt;rw[show Ieee.double.read x=_ from e];rfl
theorem Zahn(x:Nat)(h:2139095040<rg x):∃s f,FloatKind.f32.decode x=.nan s f:=⟨_,_,Zli x h⟩
section
variable {P : Program} (w : World)
theorem Ztw(src dst:TypeId)(s k:FloatKind)(b:Nat)(hs:(P.underlying src).isSome=true)(hd:P.underlying dst=some (.float k))(hk:s≠k)(h:∃g f,s.decode b=.nan g f):
 (convert src dst (.float s b)).run P w=.ok (.float k ((Question.nanConv k b).cut (w.tape w.drawn (.nanConv k b)))) w.drew:=by
 obtain⟨u,hs'⟩:=Option.isSome_iff_exists.1 hs;obtain⟨g,f,h⟩:=h;cases u<;>simp[convert,run_underlying hs',run_underlying hd,Conv.floatToFloat,hk,h,choose,Sem.run,Question.forced]
theorem Zzy(x r:Nat)(h:Ieee.double.sqrt x=some r):(Extern.MathSqrt.sqrt #[.float .f64 x]).run P w=.ok (.float .f64 r) w:=by
 have h':FloatKind.f64.format.sqrt x=some r:=h;change Sem.run P (match FloatKind.f64.format.sqrt x with
  |some r=>pure (Value.float .f64 r)
  |none=>do pure (Value.float .f64 (←choose (.nanBits .f64 x x)))) w=_
 rw[h'];rfl
theorem Zzx(x:Nat)(h:Ieee.double.sqrt x=none):(Extern.MathSqrt.sqrt #[.float .f64 x]).run P w=.ok (.float .f64 ((Question.nanBits .f64 x x).cut (w.tape w.drawn (.nanBits .f64 x x)))) w.drew:=by
 have h':FloatKind.f64.format.sqrt x=none:=h;change Sem.run P (match FloatKind.f64.format.sqrt x with
  |some r=>pure (Value.float .f64 r)
  |none=>do pure (Value.float .f64 (←choose (.nanBits .f64 x x)))) w=_
 rw[h'];simp[choose,Sem.run,Question.forced]
end
theorem Zaiz(a:Nat)(ha:a<4294967296):
 (2139095040<rg a/\Ieee.single.sqrt a=none)\/
 (∃x,floatToFloatBits .f32 a .f64=some x/\Ieee.double.sqrt x=none/\Ieee.single.sqrt a=none)\/
 (∃x y z,floatToFloatBits .f32 a .f64=some x/\Ieee.double.sqrt x=some y/\floatToFloatBits .f64 y .f32=some z/\Ieee.single.sqrt a=some z):=by
 have eself:wd (ng a) (rg a)=wd (ng a) (rg a):=rfl;rcases Nat.lt_trichotomy (rg a) 2139095040 with c|c|c
 ·right;have hf2f:∀r,Ieee.double.nearest (ng a) (mg a) (-149+(te a:Int))=Ieee.double.word (ng a) r->r<Ieee.double.infRung->floatToFloatBits .f32 a .f64=some (Ieee.double.word (ng a) r):=by
   intro r h1 h2;obtain⟨m,t,hrd,-,-⟩:=Zpl Ieee.double (ng a) r h2;unfold floatToFloatBits;rw[if_neg dE,show FloatKind.f32.decode a=.number (ng a) (mg a) (-149+(te a:Int))from Zjy a c];simp only [];have e1:FloatKind.f64.encode (.number (ng a) (mg a) (-149+(te a:Int)))=Ieee.double.word (ng a) r:=h1;rw[e1,show FloatKind.f64.decode (Ieee.double.word (ng a) r)=_ from hrd];rfl
  by_cases h0:mg a=0
  ·right;have hr0:rg a=0:=by unfold mg at h0;split at h0<;>omega
   have e0:a=wd (ng a) 0:=by unfold wd ng rg at *;by_cases d:a/2147483648%2=1<;>simp[d]<;>omega
   have hz:Ieee.double.nearest (ng a) (mg a) (-149+(te a:Int))=Ieee.double.word (ng a) 0:=by rw[h0];rfl
   have hinf:0<Ieee.double.infRung:=dE;obtain⟨m,t,hrd,hmt,-⟩:=Zpl Ieee.double (ng a) 0 hinf;have hm:m=0:=by
    rw[Zpo]at hmt;rcases Nat.mul_eq_zero.1 hmt with e|e
    ·exact e
    ·exact absurd e (Nat.ne_of_gt (Nat.two_pow_pos t))
   subst hm;refine⟨_,Ieee.double.word (ng a) 0,a,hf2f 0 hz hinf,?_,?_,?_⟩
   ·unfold Ieee.Format.sqrt;rw[hrd];simp[Ieee.Datum.root,Ieee.Format.write,Ieee.Format.nearest]
   ·unfold floatToFloatBits;rw[if_neg dE,show FloatKind.f64.decode (Ieee.double.word (ng a) 0)=_ from hrd];simp only [];have e1:FloatKind.f32.encode (.number (ng a) 0 (Ieee.double.leastPlace+(t:Int)))=a:=by
     have:Ieee.single.nearest (ng a) 0 (Ieee.double.leastPlace+(t:Int))=wd (ng a) 0:=by
      simp only[Ieee.Format.nearest,if_true];rfl
     exact this.trans e0.symm
    rw[e1,show FloatKind.f32.decode a=_ from Zjy a c];rfl
   ·unfold Ieee.Format.sqrt;rw[Zjy a c,h0];simp only[Ieee.Datum.root,if_true,Option.map_some,Ieee.Format.write,Ieee.Format.nearest];exact congrArg some e0.symm
  ·cases hs:ng a
   ·right;obtain⟨rW,rD,mD,tD,r,h1,h2,h3,h4,h5,h6,h7,h8⟩:=Zaqr a c hs h0;obtain⟨r',k1,k2⟩:=Zuv a c hs h0;have hrr:=h8.unique k2;subst hrr;have hf:=hf2f rW (by rw[hs];exact h1) h2;rw[hs]at hf;refine⟨_,_,wd false r,hf,h3,?_,k1⟩;unfold floatToFloatBits;rw[if_neg dE,show FloatKind.f64.decode (Ieee.double.word false rD)=_ from h5];simp only [];have e1:FloatKind.f32.encode (.number false mD (-1074+(tD:Int)))=wd false r:=h6;rw[e1,show FloatKind.f32.decode (wd false r)=_ from Zjy _ (by rw[rg_wd];omega)];rfl
   ·left;obtain⟨r,h1,h2,h3⟩:=Zyw (mg a) (te a) true (mg_lt a) (te_le a c);have hf:=hf2f r (by rw[hs];exact h1) h3;rw[hs]at hf;obtain⟨m,t,hrd,hmt,-⟩:=Zpl Ieee.double true r h3;have hm:m≠0:=by
     intro e;subst e;rw[Znb,h2,Nat.zero_mul]at hmt;exact absurd hmt.symm (Nat.ne_of_gt (Nat.mul_pos (Nat.pos_of_ne_zero h0) (Nat.two_pow_pos _)))
    refine⟨_,hf,?_,?_⟩
    ·unfold Ieee.Format.sqrt;rw[hrd];simp[Ieee.Datum.root,hm]
    ·unfold Ieee.Format.sqrt;rw[Zjy a c,hs];simp[Ieee.Datum.root,h0]
 ·right;have hf:floatToFloatBits .f32 a .f64=some (Ieee.double.word (ng a) Ieee.double.infRung):=by
   unfold floatToFloatBits;rw[if_neg dE,show FloatKind.f32.decode a=_ from Zlw a c];rfl
  have hrd:∀s,Ieee.double.read (Ieee.double.word s Ieee.double.infRung)=.infinity s:=dE;cases hs:ng a
  ·right;have e0:a=2139095040:=by unfold ng rg at *;simp at hs;omega
   rw[hs]at hf;refine⟨_,Ieee.double.word false Ieee.double.infRung,a,hf,?_,?_,?_⟩
   ·unfold Ieee.Format.sqrt;rw[hrd];rfl
   ·unfold floatToFloatBits;rw[if_neg dE,show FloatKind.f64.decode (Ieee.double.word false Ieee.double.infRung)=_ from hrd false,e0];rfl
   ·unfold Ieee.Format.sqrt;rw[Zlw a c,hs,e0];rfl
  ·left;rw[hs]at hf;refine⟨_,hf,?_,?_⟩
   ·unfold Ieee.Format.sqrt;rw[hrd];rfl
   ·unfold Ieee.Format.sqrt;rw[Zlw a c,hs];rfl
 ·left;refine⟨c,?_⟩;unfold Ieee.Format.sqrt;rw[Zli a c];rfl
theorem Zzb(x:Nat)(w:World):(callFunc 196 #[.float .f64 x]).run prog w=((Extern.MathSqrt.sqrt #[.float .f64 x]).run prog w).andThen fun v w'=>.ok (.value v) w':=
 run_callFunc_extern (e:=Extern.MathSqrt.sqrt) func196 kR kR kR kR _ _
theorem Zaix(x r:Nat)(h:Ieee.double.sqrt x=some r)(w:World):
 Calls prog 191 #[.float .f64 x] w fun e w'=>e=.returned (.float .f64 r)/\w'=w:=by
 have hx:=Zzb x w;rw[Zzy w x r h]at hx;simp only[Result.andThen]at hx;go_enter func191,ntmps191;go_wp2;go_ret;exact⟨rfl,rfl⟩
theorem Zwp(x:Nat)(h:Ieee.double.sqrt x=none)(w:World):
 Calls prog 191 #[.float .f64 x] w fun e w'=>(∃z,e=.returned (.float .f64 z)/\Ieee.double.infRung<z%Ieee.double.signWeight)/\Below w.heap.size w w':=by
 have hx:=Zzb x w;rw[Zzx w x h]at hx;simp only[Result.andThen]at hx;have hz:=Zyk x x (w.tape w.drawn (.nanBits .f64 x x));generalize (Question.nanBits .f64 x x).cut (w.tape w.drawn (.nanBits .f64 x x))=z at *;go_enter func191,ntmps191;go_wp2;go_ret;exact⟨⟨z,rfl,hz⟩,belD _⟩
theorem Zya(w:World)(b:Nat)(h:Ieee.double.infRung<b%Ieee.double.signWeight):
 ∃z:Nat,canon (z:Int)=2143289344/\z<4294967296/\(convert 235 208 (.float .f64 b)).run prog w=.ok (.float .f32 z) w.drew:=by
 refine⟨_,Znc ?_,?_,Ztw (P:=prog) w 235 208 .f64 .f32 b (by rw[underlying235];rfl) underlying208 dE (Zwg b h)⟩
 ·exact(Zaah _ _).1
 ·exact(Zaah _ _).2
theorem Zapg(a:Int)(h0:0<=a)(h1:a<4294967296)(w:World):
 Calls prog 165 #[.int .u32 a] w fun e w'=>e=.returned (.int .u32 (Zks a))/\Below w.heap.size w w':=by
 unfold Zks;rcases Zaiz a.toNat oM with⟨c,hr⟩|⟨x,hx,hq,hr⟩|⟨x,y,z,hx,hy,hz,hr⟩
 ·rw[hr];have e1:=Ztw (P:=prog) w 208 235 .f32 .f64 a.toNat Zhm underlying235 dE (Zahn _ c);have hn1:=Zagz a.toNat (w.tape w.drawn (.nanConv .f64 a.toNat));generalize (Question.nanConv .f64 a.toNat).cut (w.tape w.drawn (.nanConv .f64 a.toNat))=z1 at *;have hq:=Zvq z1 hn1;clear hr c hn1;go_enter func165,ntmps165;go_wp2_with(first
   |(go_at_call 162;refine(Zlu _ oM oM _).mono ?_;rintro e w' ⟨rfl,rfl⟩)
   |(go_at_call 191;refine(Zwp _ hq _).mono ?_;rintro e w2 ⟨⟨z2,rfl,hz2⟩,hw2⟩;obtain⟨z3,hc,hz,e3⟩:=Zya w2 z2 hz2)
   |(go_at_call 140;refine(Zkm _ hz _).mono ?_;rintro e w' ⟨rfl,rfl⟩))
  go_ret;exact⟨rfl,(belV (belD _) hw2).drew⟩
 ·rw[hr];have e1:=run_convert_float_float (P:=prog) w 208 235 .f32 .f64 a.toNat x Zhm underlying235 hx;clear hr hx;go_enter func165,ntmps165;go_wp2_with(first
   |(go_at_call 162;refine(Zlu _ oM oM _).mono ?_;rintro e w' ⟨rfl,rfl⟩)
   |(go_at_call 191;refine(Zwp _ hq _).mono ?_;rintro e w2 ⟨⟨z2,rfl,hz2⟩,hw2⟩;obtain⟨z3,hc,hz,e3⟩:=Zya w2 z2 hz2)
   |(go_at_call 140;refine(Zkm _ hz _).mono ?_;rintro e w' ⟨rfl,rfl⟩))
  go_ret;exact⟨rfl,hw2.drew⟩
 ·rw[hr];have hn:=Zuw hr;have hc:=Zlp hn.1;have hlt:=hn.2;have e1:=run_convert_float_float (P:=prog) w 208 235 .f32 .f64 a.toNat x Zhm underlying235 hx;have e2:=run_convert_float_float (P:=prog) w 235 208 .f64 .f32 y z (by rw[underlying235];rfl) underlying208 hz;clear hr hx hz hn;go_enter func165,ntmps165;go_wp2_with(first
   |(go_at_call 162;refine(Zlu _ oM oM _).mono ?_;rintro e w' ⟨rfl,rfl⟩)
   |(go_at_call 191;refine(Zaix _ _ hy _).mono ?_;rintro e w2 ⟨rfl,rfl⟩)
   |(go_at_call 140;refine(Zkm _ hlt _).mono ?_;rintro e w' ⟨rfl,rfl⟩))
  go_ret;exact⟨rfl,Zkp _⟩
end Go.Proofs.YtbinohkcolcbfaaGreat
namespace Go.Proofs.YtbinohkcolcbfaaGreat
open Go.RowKit Go.Proofs.Tryz
set_option linter.unusedVariables false
set_option linter.unusedSimpArgs false
set_option maxRecDepth 100000
set_option maxHeartbeats 16000000
theorem Zoe(a b:Int):compare a b=if a<b then .lt else if a=b then .eq else .gt:=rfl
theorem Zabd{a b:Int}(h:a<b):compare a b=.lt:=by rw[Zoe,if_pos h]
theorem Zaar{a b:Int}(h:a=b):compare a b=.eq:=by rw[Zoe,if_neg oM,if_pos h]
theorem Zack{a b:Int}(h:b<a):compare a b=.gt:=by rw[Zoe,if_neg oM,if_neg oM]
theorem Zajr(a b p:Int)(hp:0<p):compare (a*p) (b*p)=compare a b:=by
 rw[Zoe,Zoe];have h1:a*p<b*p↔a<b:=Int.mul_lt_mul_right hp;have h2:a*p=b*p↔a=b:=⟨fun h=>Int.eq_of_mul_eq_mul_right oM h,fun h=>by rw[h]⟩
 simp only[h1,h2]
theorem Zvm{x:Nat}(h:rg x=2139095040):mv x=V 23 2139095040:=by unfold mv;rw[h]
theorem mv_fin{x:Nat}(h:rg x<2139095040):mv x<V 23 2139095040:=V_lt 23 h
theorem sv_fin{x:Nat}(h:rg x<2139095040): -(V 23 2139095040:Int)<sv x/\sv x<(V 23 2139095040:Int):=by
 have:=mv_fin h;unfold sv sg;split<;>omega
theorem Zaqh(x y:Nat):Ieee.single.order x y=if 2139095040<rg x\/2139095040<rg y then none else some (compare (sv x) (sv y)):=by
 unfold Ieee.Format.order;have hV:0<V 23 2139095040:=by have:=V_lt 23 (show 0<2139095040 by decide);omega
 rcases Nat.lt_trichotomy (rg x) 2139095040 with c|c|c
 ·rcases Nat.lt_trichotomy (rg y) 2139095040 with d|d|d
  ·rw[Zjy x c,Zjy y d,if_neg oM];simp only[Ieee.Datum.order];have hm:min (-149+(te x:Int)) (-149+(te y:Int))= -149+((min (te x) (te y):Nat):Int):=oM;rw[hm];have e1:(-149+(te x:Int)-(-149+((min (te x) (te y):Nat):Int))).toNat=te x-min (te x) (te y):=oM;have e2:(-149+(te y:Int)-(-149+((min (te x) (te y):Nat):Int))).toNat=te y-min (te x) (te y):=oM;rw[e1,e2];generalize hc:min (te x) (te y)=m;have s1:Ieee.signed (ng x) (mg x) (te x-m)*(2:Int)^m=sv x:=by
    rw[Zvx,show te x-m+m=te x by omega,←Zpr];rfl
   have s2:Ieee.signed (ng y) (mg y) (te y-m)*(2:Int)^m=sv y:=by
    rw[Zvx,show te y-m+m=te y by omega,←Zpr];rfl
   rw[←s1,←s2,Zajr _ _ _ (Int.pow_pos dE)]
  ·rw[Zjy x c,Zlw y d,if_neg oM];simp only[Ieee.Datum.order];have h:=sv_fin c;have e:sv y=sg (ng y) (V 23 2139095040):=by unfold sv;rw[Zvm d]
   rw[e,Zoe];cases ng y
   ·rw[if_neg dE,if_pos Zgs]
   ·rw[if_pos rfl,if_neg Zgs,if_neg Zgs]
  ·rw[Zli y d,Zjy x c,if_pos (Or.inr d)];rfl
 ·rcases Nat.lt_trichotomy (rg y) 2139095040 with d|d|d
  ·rw[Zlw x c,Zjy y d,if_neg oM];simp only[Ieee.Datum.order];have h:=sv_fin d;have e:sv x=sg (ng x) (V 23 2139095040):=by unfold sv;rw[Zvm c]
   rw[e,Zoe];cases ng x
   ·rw[if_neg dE,if_neg Zgs,if_neg Zgs]
   ·rw[if_pos rfl,if_pos Zgs]
  ·rw[Zlw x c,Zlw y d,if_neg oM];simp only[Ieee.Datum.order];have e1:sv x=sg (ng x) (V 23 2139095040):=by unfold sv;rw[Zvm c]
   have e2:sv y=sg (ng y) (V 23 2139095040):=by unfold sv;rw[Zvm d]
   rw[e1,e2,Zoe];cases ng x<;>cases ng y
   ·rw[if_neg oM,if_pos rfl];rfl
   ·rw[if_neg Zgf,if_neg Zgf];rfl
   ·rw[if_pos Zgf];rfl
   ·rw[if_neg oM,if_pos rfl];rfl
  ·rw[Zli y d,Zlw x c,if_pos (Or.inr d)];rfl
 ·rw[Zli x c,if_pos (Or.inl c)];cases Ieee.single.read y<;>rfl
theorem Zlc(a:Int)(h0:0<=a):(rg a.toNat:Int)=a%2147483648:=by unfold rg;omega
theorem Ztu(a:Int)(h0:0<=a):nan a=decide (2139095040<rg a.toNat):=by
 unfold nan;rw[decide_eq_decide];have:=Zlc a h0;omega
theorem Ztx(a b:Int)(h0:0<=a)(g0:0<=b):ord a b=if nan a=true\/nan b=true then none else some (compare (sv a.toNat) (sv b.toNat)):=by
 unfold ord;rw[Zaqh,Ztu a h0,Ztu b g0];simp only[decide_eq_true_eq]
theorem Zamk(a b:Int)(h0:0<=a)(g0:0<=b):Zpd a b=true↔nan a=false/\nan b=false/\sv a.toNat<sv b.toNat:=by
 unfold Zpd;rw[Ztx a b h0 g0];by_cases hn:nan a=true\/nan b=true
 ·rw[if_pos hn];simp;intro k1 k2;simp[k1,k2]at hn
 ·rw[if_neg hn];have hn':nan a=false/\nan b=false:=by simpa using hn
  rcases Int.lt_trichotomy (sv a.toNat) (sv b.toNat)with c|c|c
  ·rw[Zabd c];simp[hn',c]
  ·rw[Zaar c];simp;omega
  ·rw[Zack c];simp;omega
theorem sv_inj{x y:Nat}(h:sv x=sv y):rg x=rg y/\(ng x=ng y\/rg x=0):=by
 have hz:∀z,mv z=0->rg z=0:=by
  intro z hz;unfold mv at hz;rw[←Zpo 23]at hz;exact V_inj 23 hz
 have key:mv x=mv y/\(ng x=ng y\/mv x=0):=by
  unfold sv sg at h;cases hx:ng x<;>cases hy:ng y<;>rw[hx,hy]at h<;>simp only[if_true,if_false,Bool.false_eq_true]at h
  ·exact⟨oM,Or.inl rfl⟩
  ·exact⟨oM,Or.inr oM⟩
  ·exact⟨oM,Or.inr oM⟩
  ·exact⟨oM,Or.inl rfl⟩
 refine⟨V_inj 23 key.1,?_⟩;rcases key.2 with e|e
 ·exact Or.inl e
 ·exact Or.inr (hz x e)
theorem Zpg(a:Int)(h0:0<=a)(h1:a<4294967296):a=(if ng a.toNat then 2147483648 else 0)+(rg a.toNat:Int):=by
 unfold ng rg;by_cases c:2147483648<=a
 ·have:a.toNat/2147483648%2=1:=oM;simp[this];omega
 ·have:a.toNat/2147483648%2=0:=oM;simp[this];omega
theorem pat_ext{a b:Int}(h0:0<=a)(h1:a<4294967296)(g0:0<=b)(g1:b<4294967296)(hr:rg a.toNat=rg b.toNat)(hs:ng a.toNat=ng b.toNat):a=b:=by
 rw[Zpg a h0 h1,Zpg b g0 g1,hr,hs]
theorem Zaaf(a:Int)(h0:0<=a)(h1:a<4294967296):ng a.toNat=decide (2147483648<=a):=by
 unfold ng;by_cases c:2147483648<=a<;>simp[c]<;>omega
theorem Zamy(d e:Ieee.Datum):d.sum e=e.sum d:=by
 cases d<;>cases e<;>simp only[Ieee.Datum.sum]
 ·rename_i s m i t n j;rw[Int.min_comm j i,Int.add_comm (Ieee.signed t n _),Bool.and_comm]
 ·rename_i s t;by_cases h:s=t
  ·rw[if_pos h,if_pos h.symm,h]
  ·rw[if_neg h,if_neg (fun k=>h k.symm)]
theorem Zzu(a b:Int):fadd a b=fadd b a:=by unfold fadd Ieee.Format.add;rw[Zamy]
def flip(a:Nat):Nat:=if 2147483648<=a then a-2147483648 else a+2147483648
theorem Zaev(a:Nat)(h:a<4294967296):rg (flip a)=rg a:=by unfold rg flip;split<;>omega
theorem ng_flip(a:Nat)(h:a<4294967296):ng (flip a)= !ng a:=by
 unfold ng flip;split
 ·rename_i c;have e1:a/2147483648%2=1:=oM;have e2:(a-2147483648)/2147483648%2=0:=oM;simp[e1,e2]
 ·rename_i c;have e1:a/2147483648%2=0:=oM;have e2:(a+2147483648)/2147483648%2=1:=oM;rw[e1,e2];rfl
theorem Zalh(a:Nat)(h:a<4294967296):Ieee.single.read (flip a)=(Ieee.single.read a).opposite:=by
 rw[Zml,Zml,Zaev a h,ng_flip a h];split
 ·rfl
 ·split
  ·rfl
  ·split<;>rfl
theorem Zabw(a:Int)(h0:0<=a)(h1:a<4294967296)(hn:nan a=false):fneg a=(flip a.toNat:Nat):=by
 unfold fneg flip;have e:(if 2147483648<=a then a-2147483648 else a+2147483648)=((if 2147483648<=a.toNat then a.toNat-2147483648 else a.toNat+2147483648:Nat):Int):=by
  by_cases c:2147483648<=a
  ·rw[if_pos c,if_pos oM];omega
  ·rw[if_neg c,if_neg oM];omega
 rw[e];apply Zlp;have:=Zaev a.toNat oM;unfold flip at this;rw[this];rw[Ztu a h0]at hn;simpa using hn
theorem Zabj(a:Int)(h0:0<=a)(h1:a<4294967296)(hn:nan a=true):fneg a=2143289344:=by
 unfold fneg canon;rw[Zxe]at hn;have:nan (if 2147483648<=a then a-2147483648 else a+2147483648)=true:=by
  rw[Zxe];split<;>omega
 rw[if_pos this]
theorem Zaeq(a:Int)(h0:0<=a)(h1:a<4294967296):0<=fneg a/\fneg a<4294967296:=by
 have h:0<=(if 2147483648<=a then a-2147483648 else a+2147483648)/\(if 2147483648<=a then a-2147483648 else a+2147483648)<4294967296:=by split<;>omega
 exact Znp _ h.1 h.2

end Go.Proofs.YtbinohkcolcbfaaGreat
set_option maxRecDepth 100000
set_option maxHeartbeats 16000000
namespace Go.Proofs.YtbinohkcolcbfaaGreat
open Go.Proofs.Tryz
open Go.Shelf Go.RowKit
def Zwy:Go.Shelf.Ren:=⟨fun|137=>159|217=>188|266=>195|n=>n,fun|9=>9|5=>5|3=>3|n=>n,fun|n=>n⟩
theorem Zaiv:Go.Proofs.Lays.n137 Tryz.prog Zwy:={
 mixed:=kR
 f137:=Tryz.func159.trans (congrArg some kR)
 f217:=Tryz.func188.trans (congrArg some kR)
 f266:=Tryz.func195.trans (congrArg some kR)
 t3:=Tryz.underlying3
 a3:=Tryz.isAgg3
 z3:=Tryz.sizeOf3
 v3:=Tryz.zeroValue3
 t5:=Tryz.underlying5
 a5:=Tryz.isAgg5
 z5:=Tryz.sizeOf5
 v5:=Tryz.zeroValue5
 t9:=Tryz.underlying9
 a9:=Tryz.isAgg9
 z9:=Tryz.sizeOf9
 v9:=Tryz.zeroValue9}
theorem Zss(s:ByteArray)(c:Int)(w:World):
 Calls Tryz.prog 159 #[.string s,.int .u8 c] w fun e w'=>e=.returned (.int .i64 (Lib.indexByte s.data.toList c.toNat.toUInt8))/\w'=w:=Any.strings_IndexByte Zaiv s c w
end Go.Proofs.YtbinohkcolcbfaaGreat
set_option maxRecDepth 100000
set_option maxHeartbeats 16000000
namespace Go.Proofs.YtbinohkcolcbfaaGreat
open Go.RowKit Go.Proofs.Tryz
set_option linter.unusedVariables false
def dn(o:Option Nat):Nat:=match o with
 |some _=>0
 |none=>1
section
variable {P : Program} (w : World)
end
section
variable (w : World) (n : Nat)
@[go_sem] theorem alloc_drewN (o:Obj):(w.drewN n).alloc o=(w.alloc o).drewN n:=rfl
@[go_sem] theorem setCell_drewN (a:Addr) (v:Value):(w.drewN n).setCell a v=(w.setCell a v).drewN n:=rfl
end
end Go.Proofs.YtbinohkcolcbfaaGreat
set_option maxRecDepth 100000
set_option maxHeartbeats 16000000
namespace Go.Proofs.YtbinohkcolcbfaaGreat
open Go.RowKit Go.Proofs.Tryz
set_option linter.unusedVariables false
theorem Zkk{w:World}{a:Addr}{v:Value}(h:w.cell? a=some v):a.block<w.heap.size:=by
 rcases Nat.lt_or_ge a.block w.heap.size with c|c
 ·exact c
 ·have:w.heap[a.block]? =none:=Array.getElem?_eq_none c;simp[World.cell?,this]at h
theorem Zje(w:World)(o:Obj):Below w.heap.size w (w.alloc o):=(Below.refl _ _).alloc (Nat.le_refl _) o
section
variable {w : World} {cs : List (Addr × Value)} {g : Nat} {x y : Value} {v v' : World}
end
end Go.Proofs.YtbinohkcolcbfaaGreat
namespace Go.Proofs.YtbinohkcolcbfaaGreat
open Go.RowKit Go.Proofs.Tryz
set_option linter.unusedVariables false
set_option linter.unusedSimpArgs false
set_option maxRecDepth 100000
set_option maxHeartbeats 16000000
def Zio(w:World)(p:Option Addr)(n:Nat)(X:Nat->Value):Prop:=n=0\/∃b o,p=some ⟨b,o,none⟩/\∀i,i<n->w.cell? ⟨b,o+i,none⟩=some (X i)
theorem Zio.below{w w':World}{p:Option Addr}{n:Nat}{X:Nat->Value}(h:Zio w p n X)(k:Below w.heap.size w w'):Zio w' p n X:=by
 rcases h with h|⟨b,o,e,h⟩
 ·exact .inl h
 ·exact .inr ⟨b,o,e,fun i hi=>(k.cell (Zkk (h i hi))).trans (h i hi)⟩
theorem Zio.congr{w:World}{p:Option Addr}{n:Nat}{X Y:Nat->Value}(h:Zio w p n X)(e:∀i,i<n->X i=Y i):Zio w p n Y:=by
 rcases h with h|⟨b,o,q,h⟩
 ·exact .inl h
 ·exact .inr ⟨b,o,q,fun i hi=>by rw[h i hi,e i hi]⟩
theorem Zaky{w w':World}{g:Nat}{t:TypeId}{n:Nat}{X:Nat->Value}(h:w.rowIs g t n X)(k:Below w.heap.size w w'):w'.rowIs g t n X:=h.of_block (k.block g h.lt)
theorem info_F:(prog.info? 43).map (fun i=>(i.zero,i.size,i.bytes))=some (some (.int .u32 0),1,4):=kR
theorem Zvw(m:Nat)(h:m<=70368744177664)(w:World):(Instr.makeSlice 57 (.int .i64 m) (.int .i64 m)).run prog w=.ok (.slice (some ⟨w.heap.size,0,none⟩) m m) (w.alloc (.cells (madeCells #[.int .u32 0] m) 43)):=
 run_make_row' (P:=prog) 57 43 (.int .u32 0) 4 underlying57 info_F rfl .i64 .i64 m oM oM w

def nums(X:Nat->Int)(n:Nat):List Value:=(List.range n).map fun i=>.int .u32 (X i)
end Go.Proofs.YtbinohkcolcbfaaGreat
