import Derived.WalkKit
import Derived.WalkSpells
import Derived.Test.YtbinohkcolcbfaaGreatPart1
namespace Go.Proofs.YtbinohkcolcbfaaGreat
open Go.RowKit Go.Proofs.Tryz
set_option linter.unusedVariables false
set_option linter.unusedSimpArgs false
set_option maxRecDepth 100000
set_option maxHeartbeats 16000000
theorem Zaak(a:Int)(k:Nat)(hk:k<32)(h0:0<=a)(h1:a<4294967296):bits .and .u32 a ((2^k-1:Nat):Int)=a%((2^k:Nat):Int):=by
 have hp:2^k<2^32:=Nat.pow_lt_pow_right oM hk;have hq:0<2^k:=Nat.two_pow_pos k;obtain⟨n,rfl⟩:=Int.eq_ofNat_of_zero_le h0;rw[u32_and _ _ h0 h1 oM oM,Int.toNat_natCast,Int.toNat_natCast,Nat.and_two_pow_sub_one_eq_mod];rfl
theorem and_23(a:Int)(h0:0<=a)(h1:a<4294967296):bits .and .u32 a 8388607=a%8388608:=Zaak a 23 oM h0 h1
theorem and_8(a:Int)(h0:0<=a)(h1:a<4294967296):bits .and .u32 a 255=a%256:=Zaak a 8 oM h0 h1
theorem Zanu(a:Int)(h0:0<=a)(h1:a<4294967296):bits .and .u32 a 2147483648=if 2147483648<=a then 2147483648 else 0:=by
 rw[u32_and a _ h0 h1 oM oM,show(2147483648:Int).toNat=2^31 from rfl,nat_bit];split<;>omega
theorem Zadk(a:Int)(h0:0<=a)(h1:a<4294967296):(bits .and .u32 a 2147483648 != 0)=decide (2147483648<=a):=by
 rw[Zanu a h0 h1];split<;>simp[*]
theorem Zye(a:Int)(h0:0<=a)(h1:a<4294967296):bits .andNot .u32 a 2147483648=a%2147483648:=by
 rw[u32_andNot a _ h0 h1 oM oM,show 4294967295-(2147483648:Int).toNat=2^31-1 from rfl,Nat.and_two_pow_sub_one_eq_mod];omega
def cls(a:Int):Int:=
 if a/8388608%256=255 then(if a%8388608=0 then 4 else 5)else if a/8388608%256=0 then(if a%8388608=0 then 1 else 2)else 3
def nan(a:Int):Bool:=decide (2139095040<a%2147483648)
theorem Zwy(a:Int):nan a=true↔2139095040<a%2147483648:=by unfold nan;simp
theorem nan_not(a:Int):nan a=false↔a%2147483648<=2139095040:=by unfold nan;simp
theorem Zaes(a:Int)(h:nan a=true)(h0:0<=a)(h1:a<4294967296):cls a=5:=by
 rw[Zwy]at h;unfold cls;rw[if_pos oM,if_neg oM]
theorem Zafp(a:Int)(h:nan a=false)(h0:0<=a)(h1:a<4294967296):cls a≠5:=by
 rw[nan_not]at h;unfold cls;repeat' split
 all_goals omega
def key(a:Int):Int:=if 2147483648<=a then -1-(a-2147483648)else a
theorem Zno(a:Int)(h0:0<=a)(h1:a<4294967296):0<=(if nan a then 2143289344 else a)/\(if nan a then 2143289344 else a)<4294967296:=by split<;>omega
def ofKey(k:Int):Int:=if k<0 then 2147483648+(-1-k)else k
def canon(a:Int):Int:=if nan a then 2143289344 else a
def next(a:Int):Int:=if nan a then 2143289344 else if a=2139095040 then a else ofKey (key a+1)
def mk(m:Bool)(e f:Int):Int:=if m then e*8388608+f+2147483648 else e*8388608+f
structure Ty where
 kind:Int
 par:Int
 deriving DecidableEq
structure Sl where
 ty:Ty
 keep:Bool
 bits:Int
 int_:Int
 deriving DecidableEq
structure Ins where
 op:Int
 d:Int
 a:Int
 b:Int
 c:Int
 n:Int
 bits:Int
 deriving DecidableEq
structure Cd where
 sign:List Par
 regs:List Ty
 slots:List Sl
 list:List Ins
structure Rw where
 d:Int
 a:Int
 b:Int
 c:Int
 n:Int
 deriving DecidableEq
def rowP(op:Int):Rw:=
 if op=1 then⟨1,0,0,0,7⟩
 else if op=2 then⟨2,0,0,0,8⟩
 else if op=3 then⟨6,5,0,0,0⟩
 else if 4<=op/\op<=10 then⟨4,5,5,0,0⟩
 else if 11<=op/\op<=14 then⟨4,5,0,0,0⟩
 else if op=15 then⟨4,5,5,5,0⟩
 else if op=16 then⟨1,1,2,0,0⟩
 else if op=17 then⟨1,2,0,0,0⟩
 else if op=18 then⟨2,1,0,0,0⟩
 else if 19<=op/\op<=20 then⟨1,3,0,0,0⟩
 else if op=21\/op=25 then⟨2,2,0,0,0⟩
 else if op=26 then⟨2,2,2,2,0⟩
 else if 22<=op/\op<=28 then⟨2,2,2,0,0⟩
 else if 29<=op/\op<=30 then⟨3,0,0,0,9⟩
 else if op=31 then⟨0,3,0,0,9⟩
 else if op=32 then⟨6,0,0,0,10⟩
 else if op=33 then⟨0,6,0,0,10⟩
 else if op=34 then⟨0,2,0,0,0⟩
 else if op=36 then⟨0,0,0,0,11⟩
 else⟨0,0,0,0,0⟩
def Zig(op:Int):Bool:=decide (1<=op)&&decide (op<=37)
def Zjj(op:Int):Bool:=decide (3<=op)&&decide (op<=15)
def Zln(op:Int):Bool:=(decide (29<=op)&&decide (op<=33))||Zjj op
def isPl(n:Int)(k:Nat):Bool:=decide (0<=n)&&decide (n<(k:Int))
def Zlv(n:Int):Bool:=decide (0<=n)&&decide (n<=2147483647)
def Zkn(a:Int):Bool:=decide ((if nan a then 2143289344 else a)=a)
def Zil(t:Ty)(n:Nat):Bool:=if t.kind=1\/t.kind=2 then t.par==0 else if t.kind=3 then isPl t.par n else false
def Znk(s:Sl):Bool:=if s.ty.kind=2 then s.bits==0&&Zlv s.int_ else s.int_==0&&Zkn s.bits
def Zjh(s:Sl)(n:Nat):Bool:=Zil s.ty n&&Znk s
def regT(l:List Ty)(n:Int):Ty:=if isPl n l.length then(l[n.toNat]?).getD ⟨0,0⟩else⟨0,0⟩
def Znm(i:Ins)(r:Rw):Int:=if r.d=0 then i.a else i.d
def Zij(l:List Ty)(i:Ins)(r:Rw):Ty:=regT l (Znm i r)
def Zjk(l:Int)(t m:Ty):Bool:=
 if l=1 then t.kind==1
 else if l=2 then t.kind==2
 else if l=3 then t.kind==3
 else if l=4 then t.kind==1||t.kind==3
 else if l=5 then decide (t=m)||(t.kind==1&&m.kind==3)
 else decide (t=m)
def Zhx(rs:List Ty)(l n:Int)(m:Ty):Bool:=if l=0 then n==0 else isPl n rs.length&&Zjk l (regT rs n) m
def Zkv(ps:List Par)(n:Int):Int:=((ps[n.toNat]?).map fun p=>p.kind).getD 0
def slotT(ss:List Sl)(n:Int):Ty:=((ss[n.toNat]?).map fun s=>s.ty).getD ⟨0,0⟩
def Zph(c:Cd)(n l:Int)(m:Ty):Bool:=
 if l=8 then Zlv n
 else if l=9 then n==0||(n==1&&Zkv c.sign m.par==2)
 else if l=10 then isPl n c.slots.length&&decide (slotT c.slots n=m)
 else if l=11 then isPl n c.sign.length
 else n==0
def Zkg(c:Cd)(i:Ins)(l:Int)(m:Ty):Bool:=if l=7 then i.n==0&&Zkn i.bits else i.bits==0&&Zph c i.n l m
def Zjp(c:Cd)(i:Ins)(r:Rw):Bool:=
 Zhx c.regs r.d i.d (Zij c.regs i r)&&(Zhx c.regs r.a i.a (Zij c.regs i r)&&(Zhx c.regs r.b i.b (Zij c.regs i r)&&(Zhx c.regs r.c i.c (Zij c.regs i r)&&Zkg c i r.n (Zij c.regs i r))))
structure Bk where
 loop:Bool
 par:Int
 ahead:Nat
structure Wk where
 set:List Nat
 opens:List Bk
def Zim(s:Wk):Bool:=match s.opens with |b::_=>b.loop|[]=>false
def Zli(s:Wk):Int:=match s.opens with |b::_=>b.par|[]=>0
def Ziw(c:Cd)(s:Wk)(i:Ins)(r:Rw):Bool:=
 if i.op=34\/i.op=36 then !Zim s&&decide (s.opens.length<64)
 else if i.op=35 then !s.opens.isEmpty&& !Zim s
 else if i.op=37 then Zim s
 else !Zim s||(Zln i.op&&decide (Zij c.regs i r=⟨3,Zli s⟩))
def Zid(i:Ins)(r:Rw):List Int:=(if r.a=0 then [] else [i.a])++((if r.b=0 then [] else [i.b])++(if r.c=0 then [] else [i.c]))
def Zix(s:Wk):Wk:=match s.opens with
 |b::r=>⟨if b.loop then s.set else s.set.take b.ahead,r⟩
 |[]=>s
def Zmo(s:Wk)(i:Ins):Wk:=
 if i.op=34\/i.op=36 then⟨s.set,⟨i.op==36,i.n,s.set.length⟩::s.opens⟩else if i.op=35\/i.op=37 then Zix s else s
def addP(s:Wk)(i:Ins)(r:Rw):Wk:=if r.d≠0/\i.d.toNat∉s.set then⟨s.set++[i.d.toNat],s.opens⟩else s
def Zoi(s:Wk)(i:Ins)(r:Rw):Wk:=addP (Zmo s i) i r
def Zqv(s:Wk)(i:Ins)(r:Rw):Bool:=(Zid i r).all fun n=>decide (n.toNat∈s.set)
def Zjb(c:Cd)(s:Wk)(i:Ins):Bool:=Zig i.op&&(Zjp c i (rowP i.op)&&(Ziw c s i (rowP i.op)&&Zqv s i (rowP i.op)))
def Zib(s:Wk)(i:Ins):Wk:=Zoi s i (rowP i.op)
def goP(c:Cd):Wk->Nat->List Ins->Int×Int
 |s,k,[]=>if s.opens.isEmpty then(0,0)else(160,k)
 |s,k,i::r=>if Zjb c s i then goP c (Zib s i) (k+1) r else(160,k)
def Zif(c:Cd):Bool:=c.regs.all fun t=>Zil t c.sign.length
def Zkc(c:Cd):Bool:=c.slots.all fun s=>Zjh s c.sign.length
def Zkw(c:Cd):Int:=
 if Ziz c.sign≠0 then Ziz c.sign
 else if 16384<c.regs.length\/32768<c.list.length then 181
 else if 4096<c.slots.length then 180
 else if Zif c&&Zkc c then 0 else 160
def Zik(c:Cd):Int×Int:=if Zkw c≠0 then(Zkw c,-1)else goP c ⟨[],[]⟩ 0 c.list
def okO:Nat->List Bk->Prop
 |_,[]=>True
 |n,b::r=>b.ahead<=n/\okO b.ahead r
theorem okO.mono:∀ {r:List Bk} {n m:Nat},okO n r->n<=m->okO m r
 |[],_,_,_,_=>trivial
 |b::r,n,m,h,k=>⟨Nat.le_trans h.1 k,h.2⟩
structure OkS(n:Nat)(s:Wk):Prop where
 nodup:s.set.Nodup
 lt:∀x∈s.set,x<n
 opens:okO s.set.length s.opens
 nest:s.opens.length<=64
theorem OkS.start(n:Nat):OkS n ⟨[],[]⟩:=⟨List.nodup_nil,fun x h=>absurd h sM,trivial,Nat.zero_le _⟩
theorem OkS.leave{n:Nat}{s:Wk}(h:OkS n s):OkS n (Zix s):=by
 obtain⟨X,O⟩:=s;cases O with
 |nil=>exact h
 |cons b r=>
  obtain⟨h1,h2,⟨h3,h4⟩,h5⟩:=h;simp only[Zix];simp only at h1 h2 h3 h4 h5;split
  ·exact⟨h1,h2,h4.mono h3,by simp at h5 ⊢;omega⟩
  ·refine⟨List.Sublist.nodup (List.take_sublist _ _) h1,fun x hx=>h2 x (List.mem_of_mem_take hx),?_,by simp at h5 ⊢;omega⟩;simp only[List.length_take];rw[Nat.min_eq_left h3];exact h4
theorem OkS.turn{n:Nat}{s:Wk}{i:Ins}(h:OkS n s)(hm:i.op=34\/i.op=36->s.opens.length<64):OkS n (Zmo s i):=by
 unfold Zmo;split
 ·rename_i e;exact⟨h.nodup,h.lt,⟨Nat.le_refl _,h.opens⟩,by have:=hm e;simp;omega⟩
 ·split
  ·exact h.leave
  ·exact h
theorem OkS.add{n:Nat}{s:Wk}{i:Ins}{r:Rw}(h:OkS n s)(hd:r.d≠0->i.d.toNat<n):OkS n (addP s i r):=by
 unfold addP;split
 ·rename_i e;refine⟨?_,fun x hx=>?_,h.opens.mono sM,h.nest⟩
  ·rw[List.nodup_append];refine⟨h.nodup,sM,fun a ha b hb=>?_⟩;simp at hb;subst hb;exact fun e'=>e.2 (e'▸ha)
  ·rcases List.mem_append.1 hx with hx|hx
   ·exact h.lt x hx
   ·simp at hx;subst hx;exact hd e.1
 ·exact h
theorem Zann:∀ {n:Nat} {l:List Nat},l.Nodup->(∀x∈l,x<n)->l.length<=n:=by
 intro n;induction n with
 |zero=>intro l _ h;cases l with
  |nil=>exact Nat.le_refl _
  |cons a t=>exact absurd (h a sM) (Nat.not_lt_zero _)
 |succ n ih=>
  intro l hd h;have h1:=ih (l:=l.erase n) (hd.erase n) fun x hx=>by
   have h2:=h x (List.mem_of_mem_erase hx);have h3:x≠n:=fun e=>by
    subst e;exact(List.Nodup.not_mem_erase hd) hx
   omega
  have h2:l.length<=(l.erase n).length+1:=by
   rw[List.length_erase];split<;>omega
  omega
theorem OkS.len{n:Nat}{s:Wk}(h:OkS n s):s.set.length<=n:=Zann h.nodup h.lt
theorem Zlf{n:Int}{k:Nat}:isPl n k=true↔0<=n/\n<(k:Int):=by unfold isPl;simp
theorem Zie{rs:List Ty}{l n:Int}{m:Ty}(h:Zhx rs l n m=true)(hl:l≠0):0<=n/\n<(rs.length:Int):=by
 unfold Zhx at h;rw[if_neg hl]at h;simp only[Bool.and_eq_true]at h;exact Zlf.1 h.1
theorem Zoa{c:Cd}{i:Ins}{r:Rw}(h:Zjp c i r=true):Zhx c.regs r.d i.d (Zij c.regs i r)=true:=by
 unfold Zjp at h;simp only[Bool.and_eq_true]at h;exact h.1
theorem Zmj{c:Cd}{i:Ins}{r:Rw}(h:Zjp c i r=true):Zhx c.regs r.a i.a (Zij c.regs i r)=true:=by
 unfold Zjp at h;simp only[Bool.and_eq_true]at h;exact h.2.1
theorem Zqd{c:Cd}{i:Ins}{r:Rw}(h:Zjp c i r=true):Zhx c.regs r.b i.b (Zij c.regs i r)=true:=by
 unfold Zjp at h;simp only[Bool.and_eq_true]at h;exact h.2.2.1
theorem Zqe{c:Cd}{i:Ins}{r:Rw}(h:Zjp c i r=true):Zhx c.regs r.c i.c (Zij c.regs i r)=true:=by
 unfold Zjp at h;simp only[Bool.and_eq_true]at h;exact h.2.2.2.1
theorem Zjw{c:Cd}{s:Wk}{i:Ins}(h:Zjb c s i=true):Zig i.op=true/\Zjp c i (rowP i.op)=true/\Ziw c s i (rowP i.op)=true/\Zqv s i (rowP i.op)=true:=by
 unfold Zjb at h;simp only[Bool.and_eq_true]at h;exact h
theorem Zss{c:Cd}{s:Wk}{i:Ins}{r:Rw}(h:Ziw c s i r=true)(e:i.op=34\/i.op=36):s.opens.length<64:=by
 unfold Ziw at h;rw[if_pos e]at h;simp only[Bool.and_eq_true,decide_eq_true_eq]at h;exact h.2
theorem OkS.step{c:Cd}{s:Wk}{i:Ins}(h:OkS c.regs.length s)(t:Zjb c s i=true):OkS c.regs.length (Zib s i):=by
 obtain⟨_,h2,h3,_⟩:=Zjw t;refine(h.turn (Zss h3)).add fun hd=>?_;have:=Zie (Zoa h2) hd;omega
theorem Zajc(a:Int)(h0:0<=a)(h1:a<4294967296)(w:World):
 Calls prog 158 #[.int .u32 a] w fun e w'=>e=.returned (.tuple #[.bool (decide (2147483648<=a)),.int .i64 (a/8388608%256),.int .i64 (a%8388608)])/\w'=w:=by
 exact Zeo
theorem Zys(a:Int)(h0:0<=a)(h1:a<4294967296)(w:World):
 Calls prog 134 #[.int .u32 a] w fun e w'=>e=.returned (.int .i64 (cls a))/\w'=w:=by
 by_cases c1:a/8388608%256=255
 ·by_cases c2:a%8388608=0
  ·have hc:cls a=4:=by unfold cls;rw[if_pos c1,if_pos c2]
   exact Zbo
  ·have hc:cls a=5:=by unfold cls;rw[if_pos c1,if_neg c2]
   exact Zbo
 ·by_cases c2:a/8388608%256=0
  ·by_cases c3:a%8388608=0
   ·have hc:cls a=1:=by unfold cls;rw[if_neg c1,if_pos c2,if_pos c3]
    exact Zbo
   ·have hc:cls a=2:=by unfold cls;rw[if_neg c1,if_pos c2,if_neg c3]
    exact Zbo
  ·have hc:cls a=3:=by unfold cls;rw[if_neg c1,if_neg c2]
   exact Zbo
theorem Zalz(a:Int)(h0:0<=a)(h1:a<4294967296)(hn:nan a=true)(w:World):
 Calls prog 134 #[.int .u32 a] w fun e w'=>e=.returned (.int .i64 5)/\w'=w:=by
 have:=Zys a h0 h1 w;rwa[Zaes a hn h0 h1]at this
theorem Zali(a:Int)(h0:0<=a)(h1:a<4294967296)(w:World):
 Calls prog 101 #[.int .u32 a] w fun e w'=>e=.returned (.int .u32 (canon a))/\w'=w:=by
 cases hn:nan a
 ·have hc:canon a=a:=by unfold canon;simp[hn]
  have h5:(cls a==5)=false:=by have:=Zafp a hn h0 h1;simpa using this
  rw[hc];clear hc hn;go_enter func101,ntmps101;go_wp2_with(go_at_call 134;refine(Zys _ h0 h1 _).mono ?_;rintro e w' ⟨rfl,rfl⟩);go_ret;exact⟨rfl,rfl⟩
 ·have hc:canon a=2143289344:=by unfold canon;simp[hn]
  rw[hc];clear hc;go_enter func101,ntmps101;go_wp2_with(go_at_call 134;refine(Zalz _ h0 h1 hn _).mono ?_;rintro e w' ⟨rfl,rfl⟩);go_ret;exact⟨rfl,rfl⟩
def tyC(t:Ty):List Value:=[.int .i64 t.kind,.int .i64 t.par]
def slC(s:Sl):List Value:=[.int .i64 s.ty.kind,.int .i64 s.ty.par,.bool s.keep,.int .u32 s.bits,.int .i64 s.int_]
def inC(i:Ins):List Value:=[.int .i64 i.op,.int .i64 i.d,.int .i64 i.a,.int .i64 i.b,.int .i64 i.c,.int .i64 i.n,.int .u32 i.bits]
theorem Zsa(t:Ty):(tyC t).length=2:=rfl
theorem Zuc(t:Sl):(slC t).length=5:=rfl
theorem Zqf(t:Ins):(inC t).length=7:=rfl
theorem Zsx(t:Par):(Zjc t).length=3:=rfl
def tyV(t:Ty):Value:=.agg #[.int .i64 t.kind,.int .i64 t.par]
def rwV(r:Rw):Value:=.agg #[.int .i64 r.d,.int .i64 r.a,.int .i64 r.b,.int .i64 r.c,.int .i64 r.n]
theorem kc{w w':World}(k:Below w.heap.size w w'){a:Addr}{v:Value}(h:w.cell? a=some v):w'.cell? a=some v:=(k.cell (Zhr h)).trans h
theorem kf{w w':World}(k:Below w.heap.size w w'){a:Addr}{v:Value}(h:w.cell? a=some v)(f:w.frozen? a=false):w'.frozen? a=false:=(k.frozen (Zhr h)).trans f
def Zhw(w:World)(b o:Nat)(cs:List Value):Prop:=∀j (h:j<cs.length),w.cell? ⟨b,o+j,none⟩=some cs[j]
theorem Zhw.below{w w':World}{b o:Nat}{cs:List Value}(h:Zhw w b o cs)(k:Below w.heap.size w w'):Zhw w' b o cs:=fun j hj=>(k.cell (Zhr (h j hj))).trans (h j hj)
theorem Zhw.at{w:World}{b o:Nat}{cs:List Value}(h:Zhw w b o cs)(j:Nat){v:Value}(e:cs[j]? =some v):w.cell? ⟨b,o+j,none⟩=some v:=by
 obtain⟨hj,e⟩:=List.getElem?_eq_some_iff.1 e;rw[h j hj,e]
theorem Zhw.of_block{w w':World}{b o:Nat}{cs:List Value}(h:Zhw w b o cs)(e:w'.heap[b]? =w.heap[b]?):Zhw w' b o cs:=fun j hj=>(World.cell?_of_block e).trans (h j hj)
def RowG{α:Type}(k:Nat)(f:α->List Value)(w:World)(v:Value)(l:List α):Prop:=
 ∃p c,v=.slice p l.length c/\(l=[]\/∃b o,p=some ⟨b,o,none⟩/\∀i (h:i<l.length),Zhw w b (o+i*k) (f l[i]))
theorem RowG.below{α:Type}{k:Nat}{f:α->List Value}{w w':World}{v:Value}{l:List α}(h:RowG k f w v l)(q:Below w.heap.size w w'):RowG k f w' v l:=by
 obtain⟨p,c,hv,h⟩:=h;exact⟨p,c,hv,h.imp id fun⟨b,o,hp,h⟩=>⟨b,o,hp,fun i hi=>(h i hi).below q⟩⟩
theorem RowG.at{α:Type}{k:Nat}{f:α->List Value}{w:World}{p:Option Addr}{n c:Nat}{l:List α}(h:RowG k f w (.slice p n c) l){i:Nat}(hi:i<l.length):∃b o,p=some ⟨b,o,none⟩/\Zhw w b (o+i*k) (f l[i]):=by
 obtain⟨p',c',hv,h⟩:=h;simp only[Value.slice.injEq]at hv;obtain⟨rfl,rfl,rfl⟩:=hv;rcases h with h|⟨b,o,hp,h⟩
 ·rw[h]at hi;exact absurd hi (Nat.not_lt_zero _)
 ·exact⟨b,o,hp,h i hi⟩
theorem RowG.rd{w:World}{v:Value}{l:List Par}(h:RowG 3 Zjc w v l):Rd w v l:=by
 obtain⟨p,c,hv,h⟩:=h;exact⟨p,c,hv,h.imp id fun⟨b,o,hp,h⟩=>⟨b,o,hp,fun i hi=>⟨(h i hi).at 0 rfl,(h i hi).at 1 rfl,(h i hi).at 2 rfl⟩⟩⟩
structure CdV(w:World)(v0 v1 v2 v3:Value)(c:Cd):Prop where
 sign:RowG 3 Zjc w v0 c.sign
 regs:RowG 2 tyC w v1 c.regs
 slots:RowG 5 slC w v2 c.slots
 list:RowG 7 inC w v3 c.list
theorem CdV.below{w w':World}{v0 v1 v2 v3:Value}{c:Cd}(h:CdV w v0 v1 v2 v3 c)(k:Below w.heap.size w w'):CdV w' v0 v1 v2 v3 c:=⟨h.sign.below k,h.regs.below k,h.slots.below k,h.list.below k⟩
def CdAt(w:World)(C:Nat)(v0 v1 v2 v3:Value)(c:Cd):Prop:=Zhw w C 0 [v0,v1,v2,v3]/\CdV w v0 v1 v2 v3 c
theorem CdAt.below{w w':World}{C:Nat}{v0 v1 v2 v3:Value}{c:Cd}(h:CdAt w C v0 v1 v2 v3 c)(k:Below w.heap.size w w'):CdAt w' C v0 v1 v2 v3 c:=⟨h.1.below k,h.2.below k⟩
structure CdOk(c:Cd):Prop where
 signL:c.sign.length<=140737488351232
 names:∀p∈c.sign,p.name.size<=140737488351232
 regsL:c.regs.length<=140737488351232
 slotsL:c.slots.length<=140737488351232
 listL:c.list.length<=140737488351232
 sbits:∀s∈c.slots,0<=s.bits/\s.bits<4294967296
 ibits:∀i∈c.list,0<=i.bits/\i.bits<4294967296
theorem Znh(n:Int)(k:Nat)(w:World):Calls prog 128 #[.int .i64 n,.int .i64 k] w fun e w'=>e=.returned (.bool (isPl n k))/\w'=w:=by
 unfold isPl;by_cases h:0<=n
 all_goals
  go_enter func128,ntmps128;exact Zdz
theorem Zuv(n:Int)(w:World):Calls prog 129 #[.int .i64 n] w fun e w'=>e=.returned (.bool (Zlv n))/\w'=w:=by
 unfold Zlv;by_cases h:0<=n
 all_goals
  go_enter func129,ntmps129;exact Zdz
theorem Zwj(a:Int)(h0:0<=a)(h1:a<4294967296)(w:World):Calls prog 130 #[.int .u32 a] w fun e w'=>e=.returned (.bool (Zkn a))/\w'=w:=by
 have hc:Zkn a=(canon a==a):=by unfold Zkn canon;cases nan a<;>rw[Bool.eq_iff_iff]<;>simp
 rw[hc];have HK:Hid (∀w,Calls prog 101 #[.int .u32 a] w fun e w'=>e=.returned (.int .u32 (canon a))/\w'=w):=Zali a h0 h1;clear hc;obtain⟨x,hx⟩:∃x,canon a=x:=⟨_,rfl⟩
 rw[hx]at HK ⊢;clear hx;go_enter func130,ntmps130;go_wp2_with(go_at_call 101;refine(HK.out _).mono ?_;rintro e w1 ⟨rfl,rfl⟩);go_ret;exact⟨rfl,rfl⟩
theorem Ztb(t:Ty)(p:Option Addr)(n c:Nat)(hn:n<=140737488351232)(w:World):Calls prog 90 #[tyV t,.slice p n c] w fun e w'=>e=.returned (.bool (Zil t n))/\Below w.heap.size w w':=by
 obtain⟨K,P⟩:=t;have HK:Hid (∀w,Calls prog 128 #[.int .i64 P,.int .i64 n] w fun e w'=>e=.returned (.bool (isPl P n))/\w'=w):=Znh P n;unfold Zil tyV;simp only;by_cases h1:K=1
 ·subst h1;rw[if_pos (Or.inl rfl)];exact Zep
 ·by_cases h2:K=2
  ·subst h2;rw[if_pos (Or.inr rfl)];exact Zep
  ·rw[if_neg (fun e=>e.elim h1 h2)];have h1':(K==1)=false:=by simpa using h1
   have h2':(K==2)=false:=by simpa using h2
   by_cases h3:K=3
   ·subst h3;rw[if_pos rfl];go_enter func90,ntmps90;exact Zfk
   ·rw[if_neg h3];have h3':(K==3)=false:=by simpa using h3
    clear h1 h2 h3;exact Zep
def slV(s:Sl):Value:=.agg #[.int .i64 s.ty.kind,.int .i64 s.ty.par,.bool s.keep,.int .u32 s.bits,.int .i64 s.int_]
theorem Zagu(s:Sl)(h0:0<=s.bits)(h1:s.bits<4294967296)(w:World):Calls prog 91 #[slV s] w fun e w'=>e=.returned (.bool (Znk s))/\Below w.heap.size w w':=by
 have HK:Hid (∀w,Calls prog 130 #[.int .u32 s.bits] w fun e w'=>e=.returned (.bool (Zkn s.bits))/\w'=w):=Zwj s.bits h0 h1;have HL:Hid (∀w,Calls prog 129 #[.int .i64 s.int_] w fun e w'=>e=.returned (.bool (Zlv s.int_))/\w'=w):=Zuv s.int_;obtain⟨⟨K,P⟩,Q,B,I⟩:=s;unfold Znk slV;simp only at HK HL h0 h1 ⊢;obtain⟨X,hX⟩:∃X,Zkn B=X:=⟨_,rfl⟩
 obtain⟨Y,hY⟩:∃Y,Zlv I=Y:=⟨_,rfl⟩
 rw[hX]at HK ⊢;rw[hY]at HL ⊢;clear hX hY;by_cases h2:K=2
 ·subst h2;rw[if_pos rfl];cases hb:(B==0)
  all_goals
   go_enter func91,ntmps91;go_wp2_with(go_at_call 129;refine(HL.out _).mono ?_;rintro e w1 ⟨rfl,rfl⟩);go_ret;exact⟨Zhu (by simp[hb]),Zhq _ _⟩
 ·rw[if_neg h2];have h2':(K==2)=false:=by simpa using h2
  clear h2;cases hb:(I==0)
  all_goals
   go_enter func91,ntmps91;go_wp2_with(go_at_call 130;refine(HK.out _).mono ?_;rintro e w1 ⟨rfl,rfl⟩);go_ret;exact⟨Zhu (by simp[hb]),Zhq _ _⟩
theorem ty_eq(K P L Q:Int):decide ((⟨K,P⟩:Ty)=⟨L,Q⟩)=(K==L&&P==Q):=by
 rw[Bool.eq_iff_iff];simp
theorem Zamq(l:Int)(t m:Ty)(w:World):Calls prog 131 #[.int .i64 l,tyV t,tyV m] w fun e w'=>e=.returned (.bool (Zjk l t m))/\Below w.heap.size w w':=by
 obtain⟨K,P⟩:=t;obtain⟨L,Q⟩:=m;unfold Zjk tyV;simp only[ty_eq];by_cases h1:l=1
 ·subst h1;rw[if_pos rfl];go_enter func131,ntmps131;go_wp2;go_ret;exact Zcb
 rw[if_neg h1];by_cases h2:l=2
 ·subst h2;rw[if_pos rfl];clear h1;go_enter func131,ntmps131;go_wp2;go_ret;exact Zcb
 rw[if_neg h2];by_cases h3:l=3
 ·subst h3;rw[if_pos rfl];clear h1 h2;go_enter func131,ntmps131;go_wp2;go_ret;exact Zcb
 rw[if_neg h3];by_cases h4:l=4
 ·subst h4;rw[if_pos rfl];clear h1 h2 h3;cases hk:(K==1)
  all_goals
   go_enter func131,ntmps131;go_wp2;go_ret;exact⟨Zhu (by simp[hk]),bel (Zhq _ _) (Zhq _ _)⟩
 rw[if_neg h4];by_cases h5:l=5
 ·subst h5;rw[if_pos rfl];clear h1 h2 h3 h4;cases hk:(K==1)<;>cases hl:(K==L)<;>cases hq:(P==Q)
  all_goals
   go_enter func131,ntmps131;go_wp2;go_ret;exact⟨Zhu (by simp[hk,hl,hq]),bel (Zhq _ _) (Zhq _ _)⟩
 rw[if_neg h5];have h1':(l==1)=false:=by simpa using h1
 have h2':(l==2)=false:=by simpa using h2
 have h3':(l==3)=false:=by simpa using h3
 have h4':(l==4)=false:=by simpa using h4
 have h5':(l==5)=false:=by simpa using h5
 clear h1 h2 h3 h4 h5;go_enter func131,ntmps131;go_wp2
 all_goals
  go_ret;exact⟨Zhu (by simp[*]),bel (Zhq _ _) (Zhq _ _)⟩
theorem Zpc{l:List Ty}{n:Int}{k:Nat}(h:n=(k:Int))(hk:k<l.length):regT l n=l[k]:=by
 subst h;unfold regT;rw[if_pos (Zlf.2 ⟨oM,oM⟩),Int.toNat_natCast,List.getElem?_eq_getElem hk];rfl
theorem Zlz{n:Int}{k:Nat}(h:isPl n k=true):∃m:Nat,n=(m:Int)/\m<k:=by
 obtain⟨h0,h1⟩:=Zlf.1 h;exact⟨n.toNat,oM,oM⟩
theorem Zme(C:Nat)(v0 v1 v2 v3:Value)(c:Cd)(hk:CdOk c)(l n:Int)(m:Ty)(w:World)(hc:CdAt w C v0 v1 v2 v3 c):
 Calls prog 94 #[.pointer (some ⟨C,0,none⟩),.int .i64 l,.int .i64 n,tyV m] w fun e w'=>e=.returned (.bool (Zhx c.regs l n m))/\Below w.heap.size w w':=by
 unfold Zhx;by_cases h0:l=0
 ·subst h0;rw[if_pos rfl];unfold tyV;go_enter func94,ntmps94;go_wp2;go_ret;exact⟨rfl,Zhq _ _⟩
 rw[if_neg h0];have h0':(l==0)=false:=by simpa using h0
 clear h0;have HB:=hk.regsL;have K1:=Znh n c.regs.length;obtain⟨hcc,hcv⟩:=hc;have c1:=hcc.at 1 rfl;rw[Nat.zero_add]at c1;have hr:=hcv.regs;obtain⟨p,q,rfl,hrr⟩:=hcv.regs;have HN:Hid (c.regs.length=c.regs.length):=rfl;obtain⟨X,hX⟩:∃X,isPl n c.regs.length=X:=⟨_,rfl⟩
 simp only[hX]at K1;rw[hX];have hC:=Zhr c1;simp only at hC;cases X
 ·clear hr hrr hcc hcv;obtain⟨N,hN⟩:∃N,c.regs.length=N:=⟨_,rfl⟩
  rw[hN]at K1 c1 HB;have HK:Hid (∀w,Calls prog 128 #[.int .i64 n,.int .i64 N] w fun e w'=>e=.returned (.bool false)/\w'=w):=K1;clear hN K1 hX HN;obtain⟨A,B⟩:=m;unfold tyV;go_enter func94,ntmps94;go_wp2;have hC':C≠w.heap.size:=oM;refine rG (fun v=>v.cell? ⟨C,1,none⟩=some (.slice p N q)) fun hHeld=>?_;exact Zcj
 ·obtain⟨k,hnk,hkl⟩:=Zlz hX;rw[Zpc hnk hkl];have hti:c.regs[k]=c.regs[k]:=rfl;obtain⟨b,o,hp,hx⟩:=hr.at hkl;subst hp;subst hnk;have x0:=hx.at 0 rfl;have x1:=hx.at 1 rfl;rw[Nat.add_zero]at x0;have hbl:=Zhr x0;simp only at hbl;have K2:=Zamq l c.regs[k] m;obtain⟨T,hT⟩:∃T,c.regs[k]=T:=⟨_,rfl⟩
  rw[hT]at x0 x1 K2 ⊢;obtain⟨N,hN⟩:∃N,c.regs.length=N:=⟨_,rfl⟩
  rw[hN]at K1 c1 HB hkl;have HK:Hid (∀w,Calls prog 128 #[.int .i64 (k:Int),.int .i64 N] w fun e w'=>e=.returned (.bool true)/\w'=w):=K1;clear hN K1 hX HN hr hrr hcc hcv hx hti hT;obtain⟨A,B⟩:=m;obtain⟨D,E⟩:=T;unfold tyV at K2 ⊢;simp only at x0 x1 K2 ⊢;obtain⟨Y,hY⟩:∃Y,Zjk l ⟨D,E⟩ ⟨A,B⟩=Y:=⟨_,rfl⟩
  rw[hY]at K2 ⊢;have HM:Hid (∀w,Calls prog 131 #[.int .i64 l,.agg #[.int .i64 D,.int .i64 E],.agg #[.int .i64 A,.int .i64 B]] w fun e w'=>e=.returned (.bool Y)/\Below w.heap.size w w'):=K2;clear K2 hY;have i1:(0:Int)<=(k:Int):=oM;have i2:(k:Int)<(N:Int):=oM;have hC':C≠w.heap.size:=oM;have hb':b≠w.heap.size:=oM;have HC:Hid (∀v,Below (w.alloc (.cells #[.int .i64 A,.int .i64 B] 69)).heap.size (w.alloc (.cells #[.int .i64 A,.int .i64 B] 69)) v->v.cell? ⟨C,1,none⟩=some (.slice (some ⟨b,o,none⟩) N q)/\v.cell? ⟨b,o+k*2,none⟩=some (.int .i64 D)/\v.cell? ⟨b,o+k*2+1,none⟩=some (.int .i64 E)/\v.cell? ⟨w.heap.size,0,none⟩=some (.int .i64 A)/\v.cell? ⟨w.heap.size,1,none⟩=some (.int .i64 B)):=
   fun v hv=>⟨kc hv (kc (Zhq _ _) c1),kc hv (kc (Zhq _ _) x0),kc hv (kc (Zhq _ _) x1),kc hv sG,kc hv sG⟩
  go_enter func94,ntmps94;go_wp2;refine rG (fun v=>v.cell? ⟨C,1,none⟩=some (.slice (some ⟨b,o,none⟩) N q)/\v.cell? ⟨b,o+k*2,none⟩=some (.int .i64 D)/\v.cell? ⟨b,o+k*2+1,none⟩=some (.int .i64 E)/\v.cell? ⟨w.heap.size,0,none⟩=some (.int .i64 A)/\v.cell? ⟨w.heap.size,1,none⟩=some (.int .i64 B)) fun hHeld=>?_;refine Tf 0 1 2 3 4 5 ?_;clear hHeld;refine ry1 6 fun K hK=>?_;go_simp;(go_at_call 128;refine(HK.out _).mono ?_;rintro e w1 ⟨rfl,rfl⟩);try(go_wp2_with fail)
  refine okK hK fun hHeld=>?_;clear hK K;refine Tf 7 8 9 10 11 12 ?_;refine Tc 13 14 15 ?_;refine tkT 16 ?_;clear hHeld;refine ry1 17 fun K hK=>?_;go_simp;(go_at_call 131;refine(HM.out _).mono ?_;rintro e w1 ⟨rfl,hb1⟩;have HB1:=bel (Zhs _) hb1;obtain⟨y0,y1,y2,y3,y4⟩:=HC.out w1 HB1);try(go_wp2_with fail)
  refine okK hK fun hHeld=>?_;clear hK K;refine Tb 18 19 ?_;refine wpAnyH_done kR ?_ _;go_wp2;go_ret;exact⟨sM,bel (Zhq _ _) HB1⟩
theorem rrow_1(w:World):Calls prog 67 #[.int .i64 1] w fun e w'=>e=.returned (.tuple #[.string ⟨#[110,45,45,45,45]⟩,.bool true])/\w'=w:=by
 exact Zap
theorem rrow_2(w:World):Calls prog 67 #[.int .i64 2] w fun e w'=>e=.returned (.tuple #[.string ⟨#[119,45,45,45,105]⟩,.bool true])/\w'=w:=by
 exact Zap
theorem rrow_3(w:World):Calls prog 67 #[.int .i64 3] w fun e w'=>e=.returned (.tuple #[.string ⟨#[97,99,45,45,45]⟩,.bool true])/\w'=w:=by
 exact Zap
theorem rrow_4(w:World):Calls prog 67 #[.int .i64 4] w fun e w'=>e=.returned (.tuple #[.string ⟨#[100,120,120,45,45]⟩,.bool true])/\w'=w:=by
 exact Zap
theorem rrow_5(w:World):Calls prog 67 #[.int .i64 5] w fun e w'=>e=.returned (.tuple #[.string ⟨#[100,120,120,45,45]⟩,.bool true])/\w'=w:=by
 exact Zap
theorem rrow_6(w:World):Calls prog 67 #[.int .i64 6] w fun e w'=>e=.returned (.tuple #[.string ⟨#[100,120,120,45,45]⟩,.bool true])/\w'=w:=by
 exact Zap
theorem rrow_7(w:World):Calls prog 67 #[.int .i64 7] w fun e w'=>e=.returned (.tuple #[.string ⟨#[100,120,120,45,45]⟩,.bool true])/\w'=w:=by
 exact Zap
theorem rrow_8(w:World):Calls prog 67 #[.int .i64 8] w fun e w'=>e=.returned (.tuple #[.string ⟨#[100,120,120,45,45]⟩,.bool true])/\w'=w:=by
 exact Zap
theorem rrow_9(w:World):Calls prog 67 #[.int .i64 9] w fun e w'=>e=.returned (.tuple #[.string ⟨#[100,120,120,45,45]⟩,.bool true])/\w'=w:=by
 exact Zap
theorem Zagf(w:World):Calls prog 67 #[.int .i64 10] w fun e w'=>e=.returned (.tuple #[.string ⟨#[100,120,120,45,45]⟩,.bool true])/\w'=w:=by
 exact Zap
theorem Zaeu(w:World):Calls prog 67 #[.int .i64 11] w fun e w'=>e=.returned (.tuple #[.string ⟨#[100,120,45,45,45]⟩,.bool true])/\w'=w:=by
 exact Zap
theorem Zaez(w:World):Calls prog 67 #[.int .i64 12] w fun e w'=>e=.returned (.tuple #[.string ⟨#[100,120,45,45,45]⟩,.bool true])/\w'=w:=by
 exact Zap
theorem Zaeq(w:World):Calls prog 67 #[.int .i64 13] w fun e w'=>e=.returned (.tuple #[.string ⟨#[100,120,45,45,45]⟩,.bool true])/\w'=w:=by
 exact Zap
theorem Zafu(w:World):Calls prog 67 #[.int .i64 14] w fun e w'=>e=.returned (.tuple #[.string ⟨#[100,120,45,45,45]⟩,.bool true])/\w'=w:=by
 exact Zap
theorem Zaeh(w:World):Calls prog 67 #[.int .i64 15] w fun e w'=>e=.returned (.tuple #[.string ⟨#[100,120,120,120,45]⟩,.bool true])/\w'=w:=by
 exact Zap
theorem Zaed(w:World):Calls prog 67 #[.int .i64 16] w fun e w'=>e=.returned (.tuple #[.string ⟨#[110,110,119,45,45]⟩,.bool true])/\w'=w:=by
 exact Zap
theorem Zafc(w:World):Calls prog 67 #[.int .i64 17] w fun e w'=>e=.returned (.tuple #[.string ⟨#[110,119,45,45,45]⟩,.bool true])/\w'=w:=by
 exact Zap
theorem Zaei(w:World):Calls prog 67 #[.int .i64 18] w fun e w'=>e=.returned (.tuple #[.string ⟨#[119,110,45,45,45]⟩,.bool true])/\w'=w:=by
 exact Zap
theorem Zaev(w:World):Calls prog 67 #[.int .i64 19] w fun e w'=>e=.returned (.tuple #[.string ⟨#[110,118,45,45,45]⟩,.bool true])/\w'=w:=by
 exact Zap
theorem Zafl(w:World):Calls prog 67 #[.int .i64 20] w fun e w'=>e=.returned (.tuple #[.string ⟨#[110,118,45,45,45]⟩,.bool true])/\w'=w:=by
 exact Zap
theorem Zaff(w:World):Calls prog 67 #[.int .i64 21] w fun e w'=>e=.returned (.tuple #[.string ⟨#[119,119,45,45,45]⟩,.bool true])/\w'=w:=by
 exact Zap
theorem Zafn(w:World):Calls prog 67 #[.int .i64 22] w fun e w'=>e=.returned (.tuple #[.string ⟨#[119,119,119,45,45]⟩,.bool true])/\w'=w:=by
 exact Zap
theorem Zaga(w:World):Calls prog 67 #[.int .i64 23] w fun e w'=>e=.returned (.tuple #[.string ⟨#[119,119,119,45,45]⟩,.bool true])/\w'=w:=by
 exact Zap
theorem Zadz(w:World):Calls prog 67 #[.int .i64 24] w fun e w'=>e=.returned (.tuple #[.string ⟨#[119,119,119,45,45]⟩,.bool true])/\w'=w:=by
 exact Zap
theorem Zaek(w:World):Calls prog 67 #[.int .i64 25] w fun e w'=>e=.returned (.tuple #[.string ⟨#[119,119,45,45,45]⟩,.bool true])/\w'=w:=by
 exact Zap
theorem Zaey(w:World):Calls prog 67 #[.int .i64 26] w fun e w'=>e=.returned (.tuple #[.string ⟨#[119,119,119,119,45]⟩,.bool true])/\w'=w:=by
 exact Zap
theorem Zafj(w:World):Calls prog 67 #[.int .i64 27] w fun e w'=>e=.returned (.tuple #[.string ⟨#[119,119,119,45,45]⟩,.bool true])/\w'=w:=by
 exact Zap
theorem Zaea(w:World):Calls prog 67 #[.int .i64 28] w fun e w'=>e=.returned (.tuple #[.string ⟨#[119,119,119,45,45]⟩,.bool true])/\w'=w:=by
 exact Zap
theorem Zafa(w:World):Calls prog 67 #[.int .i64 29] w fun e w'=>e=.returned (.tuple #[.string ⟨#[118,45,45,45,112]⟩,.bool true])/\w'=w:=by
 exact Zap
theorem Zafd(w:World):Calls prog 67 #[.int .i64 30] w fun e w'=>e=.returned (.tuple #[.string ⟨#[118,45,45,45,112]⟩,.bool true])/\w'=w:=by
 exact Zap
theorem Zafw(w:World):Calls prog 67 #[.int .i64 31] w fun e w'=>e=.returned (.tuple #[.string ⟨#[45,118,45,45,112]⟩,.bool true])/\w'=w:=by
 exact Zap
theorem Zagc(w:World):Calls prog 67 #[.int .i64 32] w fun e w'=>e=.returned (.tuple #[.string ⟨#[97,45,45,45,115]⟩,.bool true])/\w'=w:=by
 exact Zap
theorem Zagi(w:World):Calls prog 67 #[.int .i64 33] w fun e w'=>e=.returned (.tuple #[.string ⟨#[45,97,45,45,115]⟩,.bool true])/\w'=w:=by
 exact Zap
theorem Zafr(w:World):Calls prog 67 #[.int .i64 34] w fun e w'=>e=.returned (.tuple #[.string ⟨#[45,119,45,45,45]⟩,.bool true])/\w'=w:=by
 exact Zap
theorem Zaet(w:World):Calls prog 67 #[.int .i64 35] w fun e w'=>e=.returned (.tuple #[.string ⟨#[45,45,45,45,45]⟩,.bool true])/\w'=w:=by
 exact Zap
theorem Zafi(w:World):Calls prog 67 #[.int .i64 36] w fun e w'=>e=.returned (.tuple #[.string ⟨#[45,45,45,45,113]⟩,.bool true])/\w'=w:=by
 exact Zap
theorem Zael(w:World):Calls prog 67 #[.int .i64 37] w fun e w'=>e=.returned (.tuple #[.string ⟨#[45,45,45,45,45]⟩,.bool true])/\w'=w:=by
 exact Zap
theorem Zyv(op:Int)(h:Zig op=false)(w:World):Calls prog 67 #[.int .i64 op] w fun e w'=>e=.returned (.tuple #[.string ⟨#[]⟩,.bool false])/\w'=w:=by
 have hh:op<1\/37<op:=by unfold Zig at h;simp at h;omega
 have e1:(op==1)=false:=by have:op≠1:=oM;simpa using this
 have e2:(op==2)=false:=by have:op≠2:=oM;simpa using this
 have e3:(op==3)=false:=by have:op≠3:=oM;simpa using this
 have e4:(op==4)=false:=by have:op≠4:=oM;simpa using this
 have e5:(op==5)=false:=by have:op≠5:=oM;simpa using this
 have e6:(op==6)=false:=by have:op≠6:=oM;simpa using this
 have e7:(op==7)=false:=by have:op≠7:=oM;simpa using this
 have e8:(op==8)=false:=by have:op≠8:=oM;simpa using this
 have e9:(op==9)=false:=by have:op≠9:=oM;simpa using this
 have e10:(op==10)=false:=by have:op≠10:=oM;simpa using this
 have e11:(op==11)=false:=by have:op≠11:=oM;simpa using this
 have e12:(op==12)=false:=by have:op≠12:=oM;simpa using this
 have e13:(op==13)=false:=by have:op≠13:=oM;simpa using this
 have e14:(op==14)=false:=by have:op≠14:=oM;simpa using this
 have e15:(op==15)=false:=by have:op≠15:=oM;simpa using this
 have e16:(op==16)=false:=by have:op≠16:=oM;simpa using this
 have e17:(op==17)=false:=by have:op≠17:=oM;simpa using this
 have e18:(op==18)=false:=by have:op≠18:=oM;simpa using this
 have e19:(op==19)=false:=by have:op≠19:=oM;simpa using this
 have e20:(op==20)=false:=by have:op≠20:=oM;simpa using this
 have e21:(op==21)=false:=by have:op≠21:=oM;simpa using this
 have e22:(op==22)=false:=by have:op≠22:=oM;simpa using this
 have e23:(op==23)=false:=by have:op≠23:=oM;simpa using this
 have e24:(op==24)=false:=by have:op≠24:=oM;simpa using this
 have e25:(op==25)=false:=by have:op≠25:=oM;simpa using this
 have e26:(op==26)=false:=by have:op≠26:=oM;simpa using this
 have e27:(op==27)=false:=by have:op≠27:=oM;simpa using this
 have e28:(op==28)=false:=by have:op≠28:=oM;simpa using this
 have e29:(op==29)=false:=by have:op≠29:=oM;simpa using this
 have e30:(op==30)=false:=by have:op≠30:=oM;simpa using this
 have e31:(op==31)=false:=by have:op≠31:=oM;simpa using this
 have e32:(op==32)=false:=by have:op≠32:=oM;simpa using this
 have e33:(op==33)=false:=by have:op≠33:=oM;simpa using this
 have e34:(op==34)=false:=by have:op≠34:=oM;simpa using this
 have e35:(op==35)=false:=by have:op≠35:=oM;simpa using this
 have e36:(op==36)=false:=by have:op≠36:=oM;simpa using this
 have e37:(op==37)=false:=by have:op≠37:=oM;simpa using this
 clear hh h;exact Zap
structure RowText(r:Rw)(a b c d e:UInt8):Prop where
 a:(a==45)=(r.d==0)
 b:(b==45)=(r.a==0)
 c:(c==45)=(r.b==0)
 d:(d==45)=(r.c==0)
theorem Zaas(op:Int)(w:World):(Zig op=false/\Calls prog 67 #[.int .i64 op] w fun e w'=>e=.returned (.tuple #[.string ⟨#[]⟩,.bool false])/\w'=w)\/(Zig op=true/\∃a b c d e:UInt8,RowText (rowP op) a b c d e/\∀w,Calls prog 67 #[.int .i64 op] w fun x w'=>x=.returned (.tuple #[.string ⟨#[a,b,c,d,e]⟩,.bool true])/\w'=w):=by
 by_cases h:Zig op=false
 ·exact .inl ⟨h,Zyv op h w⟩
 ·have hh:1<=op/\op<=37:=by unfold Zig at h;simp at h;omega
  refine .inr ⟨by simpa using h,?_⟩;clear h;by_cases k1:op=1
  ·subst k1;exact⟨_,_,_,_,_,⟨rfl,rfl,rfl,rfl⟩,fun w=>rrow_1 w⟩
  by_cases k2:op=2
  ·subst k2;exact⟨_,_,_,_,_,⟨rfl,rfl,rfl,rfl⟩,fun w=>rrow_2 w⟩
  by_cases k3:op=3
  ·subst k3;exact⟨_,_,_,_,_,⟨rfl,rfl,rfl,rfl⟩,fun w=>rrow_3 w⟩
  by_cases k4:op=4
  ·subst k4;exact⟨_,_,_,_,_,⟨rfl,rfl,rfl,rfl⟩,fun w=>rrow_4 w⟩
  by_cases k5:op=5
  ·subst k5;exact⟨_,_,_,_,_,⟨rfl,rfl,rfl,rfl⟩,fun w=>rrow_5 w⟩
  by_cases k6:op=6
  ·subst k6;exact⟨_,_,_,_,_,⟨rfl,rfl,rfl,rfl⟩,fun w=>rrow_6 w⟩
  by_cases k7:op=7
  ·subst k7;exact⟨_,_,_,_,_,⟨rfl,rfl,rfl,rfl⟩,fun w=>rrow_7 w⟩
  by_cases k8:op=8
  ·subst k8;exact⟨_,_,_,_,_,⟨rfl,rfl,rfl,rfl⟩,fun w=>rrow_8 w⟩
  by_cases k9:op=9
  ·subst k9;exact⟨_,_,_,_,_,⟨rfl,rfl,rfl,rfl⟩,fun w=>rrow_9 w⟩
  by_cases k10:op=10
  ·subst k10;exact⟨_,_,_,_,_,⟨rfl,rfl,rfl,rfl⟩,fun w=>Zagf w⟩
  by_cases k11:op=11
  ·subst k11;exact⟨_,_,_,_,_,⟨rfl,rfl,rfl,rfl⟩,fun w=>Zaeu w⟩
  by_cases k12:op=12
  ·subst k12;exact⟨_,_,_,_,_,⟨rfl,rfl,rfl,rfl⟩,fun w=>Zaez w⟩
  by_cases k13:op=13
  ·subst k13;exact⟨_,_,_,_,_,⟨rfl,rfl,rfl,rfl⟩,fun w=>Zaeq w⟩
  by_cases k14:op=14
  ·subst k14;exact⟨_,_,_,_,_,⟨rfl,rfl,rfl,rfl⟩,fun w=>Zafu w⟩
  by_cases k15:op=15
  ·subst k15;exact⟨_,_,_,_,_,⟨rfl,rfl,rfl,rfl⟩,fun w=>Zaeh w⟩
  by_cases k16:op=16
  ·subst k16;exact⟨_,_,_,_,_,⟨rfl,rfl,rfl,rfl⟩,fun w=>Zaed w⟩
  by_cases k17:op=17
  ·subst k17;exact⟨_,_,_,_,_,⟨rfl,rfl,rfl,rfl⟩,fun w=>Zafc w⟩
  by_cases k18:op=18
  ·subst k18;exact⟨_,_,_,_,_,⟨rfl,rfl,rfl,rfl⟩,fun w=>Zaei w⟩
  by_cases k19:op=19
  ·subst k19;exact⟨_,_,_,_,_,⟨rfl,rfl,rfl,rfl⟩,fun w=>Zaev w⟩
  by_cases k20:op=20
  ·subst k20;exact⟨_,_,_,_,_,⟨rfl,rfl,rfl,rfl⟩,fun w=>Zafl w⟩
  by_cases k21:op=21
  ·subst k21;exact⟨_,_,_,_,_,⟨rfl,rfl,rfl,rfl⟩,fun w=>Zaff w⟩
  by_cases k22:op=22
  ·subst k22;exact⟨_,_,_,_,_,⟨rfl,rfl,rfl,rfl⟩,fun w=>Zafn w⟩
  by_cases k23:op=23
  ·subst k23;exact⟨_,_,_,_,_,⟨rfl,rfl,rfl,rfl⟩,fun w=>Zaga w⟩
  by_cases k24:op=24
  ·subst k24;exact⟨_,_,_,_,_,⟨rfl,rfl,rfl,rfl⟩,fun w=>Zadz w⟩
  by_cases k25:op=25
  ·subst k25;exact⟨_,_,_,_,_,⟨rfl,rfl,rfl,rfl⟩,fun w=>Zaek w⟩
  by_cases k26:op=26
  ·subst k26;exact⟨_,_,_,_,_,⟨rfl,rfl,rfl,rfl⟩,fun w=>Zaey w⟩
  by_cases k27:op=27
  ·subst k27;exact⟨_,_,_,_,_,⟨rfl,rfl,rfl,rfl⟩,fun w=>Zafj w⟩
  by_cases k28:op=28
  ·subst k28;exact⟨_,_,_,_,_,⟨rfl,rfl,rfl,rfl⟩,fun w=>Zaea w⟩
  by_cases k29:op=29
  ·subst k29;exact⟨_,_,_,_,_,⟨rfl,rfl,rfl,rfl⟩,fun w=>Zafa w⟩
  by_cases k30:op=30
  ·subst k30;exact⟨_,_,_,_,_,⟨rfl,rfl,rfl,rfl⟩,fun w=>Zafd w⟩
  by_cases k31:op=31
  ·subst k31;exact⟨_,_,_,_,_,⟨rfl,rfl,rfl,rfl⟩,fun w=>Zafw w⟩
  by_cases k32:op=32
  ·subst k32;exact⟨_,_,_,_,_,⟨rfl,rfl,rfl,rfl⟩,fun w=>Zagc w⟩
  by_cases k33:op=33
  ·subst k33;exact⟨_,_,_,_,_,⟨rfl,rfl,rfl,rfl⟩,fun w=>Zagi w⟩
  by_cases k34:op=34
  ·subst k34;exact⟨_,_,_,_,_,⟨rfl,rfl,rfl,rfl⟩,fun w=>Zafr w⟩
  by_cases k35:op=35
  ·subst k35;exact⟨_,_,_,_,_,⟨rfl,rfl,rfl,rfl⟩,fun w=>Zaet w⟩
  by_cases k36:op=36
  ·subst k36;exact⟨_,_,_,_,_,⟨rfl,rfl,rfl,rfl⟩,fun w=>Zafi w⟩
  by_cases k37:op=37
  ·subst k37;exact⟨_,_,_,_,_,⟨rfl,rfl,rfl,rfl⟩,fun w=>Zael w⟩
  omega
theorem Zaac(C:Nat)(p:Option Addr)(N q:Nat)(l:List Ty)(b o:Nat)(i:Ins)(r:Rw)(w:World)(hN:l.length=N)(c1:w.cell? ⟨C,1,none⟩=some (.slice p N q))(hr:RowG 2 tyC w (.slice p N q) l)(hB:N<=140737488351232)(hi:Zhw w b o (inC i)):
 Calls prog 92 #[.pointer (some ⟨C,0,none⟩),.pointer (some ⟨b,o,none⟩),rwV r] w fun e w'=>e=.returned (tyV (Zij l i r))/\Below w.heap.size w w':=by
 unfold Zij Znm;have e1:=hi.at 1 rfl;have e2:=hi.at 2 rfl;have hC:=Zhr c1;have hb:=Zhr e1;simp only at hC hb;have n1:C≠w.heap.size:=oM;have n2:C≠w.heap.size+1:=oM;have n3:b≠w.heap.size:=oM;have n4:b≠w.heap.size+1:=oM;clear hi hC hb;obtain⟨D,A,B,X,Y⟩:=r;unfold rwV;simp only;have HA:Hid (∀a v,w.cell? a=some v->((w.alloc (.cells #[.int .i64 D,.int .i64 A,.int .i64 B,.int .i64 X,.int .i64 Y] 134)).alloc (.cells #[.int .i64 0,.int .i64 0] 69)).cell? a=some v):=fun a v h=>kc (Zhq _ _) (kc (Zhq _ _) h);obtain⟨x,hx⟩:∃x,(if D=0 then i.a else i.d)=x:=⟨_,rfl⟩
 rw[hx];have K1:=Znh x N;have HX:Hid ((D=0/\x=i.a)\/(D≠0/\x=i.d)):=by
  show _\/_;by_cases h:D=0
  ·rw[if_pos h]at hx;exact .inl ⟨h,hx.symm⟩
  ·rw[if_neg h]at hx;exact .inr ⟨h,hx.symm⟩
 clear hx;obtain⟨P,hP⟩:∃P,isPl x N=P:=⟨_,rfl⟩
 simp only[hP]at K1;have HK:Hid (∀w,Calls prog 128 #[.int .i64 x,.int .i64 N] w fun e w'=>e=.returned (.bool P)/\w'=w):=K1;clear K1;cases P
 ·have HT:Hid (regT l x=⟨0,0⟩):=by show _=_;unfold regT;rw[hN,hP];rfl
  clear hP hr;rcases HX.out with⟨rfl,rfl⟩|⟨hD,rfl⟩
  ·clear HX;have f1:=HA.out _ _ e1;have f2:=HA.out _ _ e2;have f3:=HA.out _ _ c1;exact Zbn
  ·clear HX;have hD':(D==0)=false:=by simpa using hD
   clear hD;have f1:=HA.out _ _ e1;have f2:=HA.out _ _ e2;have f3:=HA.out _ _ c1;exact Zbn
 ·obtain⟨k,hxk,hk⟩:=Zlz hP;have hkl:k<l.length:=oM;have HT:Hid (regT l x=l[k]):=Zpc hxk hkl;obtain⟨g,u,hp,hx⟩:=hr.at hkl;subst hp;have x0:=hx.at 0 rfl;have x1:=hx.at 1 rfl;rw[Nat.add_zero]at x0;obtain⟨T,hT⟩:∃T,l[k]=T:=⟨_,rfl⟩
  rw[hT]at x0 x1 HT;obtain⟨E,G⟩:=T;simp only at x0 x1;have hg:=Zhr x0;simp only at hg;have n5:g≠w.heap.size:=oM;have n6:g≠w.heap.size+1:=oM;have i1:(0:Int)<=(k:Int):=oM;have i2:(k:Int)<(N:Int):=oM;clear hP hr hx hT hg hN hkl;rcases HX.out with⟨rfl,hv⟩|⟨hD,hv⟩
  ·clear HX;rw[←hv,hxk]at e2;rw[hxk]at HK HT ⊢;clear hv hxk;have f1:=HA.out _ _ e1;have f2:=HA.out _ _ e2;have f3:=HA.out _ _ c1;have f4:=HA.out _ _ x0;have f5:=HA.out _ _ x1;exact Zbn
  ·clear HX;have hD':(D==0)=false:=by simpa using hD
   rw[←hv,hxk]at e1;rw[hxk]at HK HT ⊢;clear hD hv hxk;have f1:=HA.out _ _ e1;have f2:=HA.out _ _ e2;have f3:=HA.out _ _ c1;have f4:=HA.out _ _ x0;have f5:=HA.out _ _ x1;exact Zbn
theorem Zty(C:Nat)(v0 v1 v2 v3:Value)(c:Cd)(hk:CdOk c)(b o:Nat)(i:Ins)(r:Rw)(w:World)(hc:CdAt w C v0 v1 v2 v3 c)(hi:Zhw w b o (inC i)):
 Calls prog 92 #[.pointer (some ⟨C,0,none⟩),.pointer (some ⟨b,o,none⟩),rwV r] w fun e w'=>e=.returned (tyV (Zij c.regs i r))/\Below w.heap.size w w':=by
 obtain⟨hcc,hcv⟩:=hc;have c1:=hcc.at 1 rfl;rw[Nat.zero_add]at c1;have hr:=hcv.regs;obtain⟨p,q,rfl,hrr⟩:=hcv.regs;exact Zaac C p _ q c.regs b o i r w rfl c1 hr hk.regsL hi
end Go.Proofs.YtbinohkcolcbfaaGreat
