import Derived.WalkKit
import Derived.WalkSpells
import Derived.Test.YtheanilpbnencaaSum1
import Derived.Below
namespace Go.Proofs.Ytheanilpbnencaa
open Go.RowKit Go.Proofs.Try
set_option linter.all false
set_option maxRecDepth 100000
set_option maxHeartbeats 16000000
theorem Dy(a:Int)(k:Nat)(hk:k<32)(h0:0<=a)(h1:a<4294967296):bits .and .u32 a ((2^k-1:Nat):Int)=a%((2^k:Nat):Int):=by
 have hp:2^k<2^32:=Nat.pow_lt_pow_right oM hk;have hq:0<2^k:=Nat.two_pow_pos k;obtain⟨n,rfl⟩:=Int.eq_ofNat_of_zero_le h0;rw[u32_and _ _ h0 h1 oM oM,Int.toNat_natCast,Int.toNat_natCast,Nat.and_two_pow_sub_one_eq_mod];rfl
theorem GK(a:Int)(h0:0<=a)(h1:a<4294967296):bits .and .u32 a 8388607=a%8388608:=Dy a 23 oM h0 h1
theorem Hb(a:Int)(h0:0<=a)(h1:a<4294967296):bits .and .u32 a 255=a%256:=Dy a 8 oM h0 h1
theorem F7(a:Int)(h0:0<=a)(h1:a<4294967296):bits .and .u32 a 2147483648=if 2147483648<=a then 2147483648 else 0:=by
 rw[u32_and a _ h0 h1 oM oM,show(2147483648:Int).toNat=2^31 from rfl,nat_bit];split<;>omega
theorem Dz(a:Int)(h0:0<=a)(h1:a<4294967296):(bits .and .u32 a 2147483648 != 0)=decide (2147483648<=a):=by
 rw[F7 a h0 h1];split<;>simp[*]
def DS(a:Int):Int:=
 if a/8388608%256=255 then(if a%8388608=0 then 4 else 5)else if a/8388608%256=0 then(if a%8388608=0 then 1 else 2)else 3
def F6(a:Int):Bool:=decide (2139095040<a%2147483648)
theorem Gh(a:Int):F6 a=true↔2139095040<a%2147483648:=by unfold F6;simp
theorem Gi(a:Int):F6 a=false↔a%2147483648<=2139095040:=by unfold F6;simp
theorem G7(a:Int)(h:F6 a=true)(h0:0<=a)(h1:a<4294967296):DS a=5:=by
 rw[Gh]at h;unfold DS;rw[if_pos oM,if_neg oM]
theorem G8(a:Int)(h:F6 a=false)(h0:0<=a)(h1:a<4294967296):DS a≠5:=by
 rw[Gi]at h;unfold DS;repeat' split
 all_goals omega
def GS(a:Int):Int:=if 2147483648<=a then -1-(a-2147483648)else a
def He(k:Int):Int:=if k<0 then 2147483648+(-1-k)else k
def BO(a:Int):Int:=if F6 a then 2143289344 else a
def next(a:Int):Int:=if F6 a then 2143289344 else if a=2139095040 then a else He (GS a+1)
def mk(m:Bool)(e f:Int):Int:=if m then e*8388608+f+2147483648 else e*8388608+f
structure Ty where
 kind:Int
 par:Int
 deriving DecidableEq
structure Sl where
 ty:Ty
 keep:Bool
 bits:Int
 int_:Int
 deriving DecidableEq
structure Au where
 op:Int
 d:Int
 a:Int
 b:Int
 c:Int
 n:Int
 bits:Int
 deriving DecidableEq
structure Cd where
 sign:List AF
 regs:List Ty
 slots:List Sl
 list:List Au
structure Rw where
 d:Int
 a:Int
 b:Int
 c:Int
 n:Int
 deriving DecidableEq
def A6(op:Int):Rw:=
 if op=1 then⟨1,0,0,0,7⟩
 else if op=2 then⟨2,0,0,0,8⟩
 else if op=3 then⟨6,5,0,0,0⟩
 else if 4<=op/\op<=10 then⟨4,5,5,0,0⟩
 else if 11<=op/\op<=14 then⟨4,5,0,0,0⟩
 else if op=15 then⟨4,5,5,5,0⟩
 else if op=16 then⟨1,1,2,0,0⟩
 else if op=17 then⟨1,2,0,0,0⟩
 else if op=18 then⟨2,1,0,0,0⟩
 else if 19<=op/\op<=20 then⟨1,3,0,0,0⟩
 else if op=21\/op=25 then⟨2,2,0,0,0⟩
 else if op=26 then⟨2,2,2,2,0⟩
 else if 22<=op/\op<=28 then⟨2,2,2,0,0⟩
 else if 29<=op/\op<=30 then⟨3,0,0,0,9⟩
 else if op=31 then⟨0,3,0,0,9⟩
 else if op=32 then⟨6,0,0,0,10⟩
 else if op=33 then⟨0,6,0,0,10⟩
 else if op=34 then⟨0,2,0,0,0⟩
 else if op=36 then⟨0,0,0,0,11⟩
 else⟨0,0,0,0,0⟩
def AH(op:Int):Bool:=decide (1<=op)&&decide (op<=37)
def Aw(op:Int):Bool:=decide (3<=op)&&decide (op<=15)
def AY(op:Int):Bool:=(decide (29<=op)&&decide (op<=33))||Aw op
def Ao(n:Int)(k:Nat):Bool:=decide (0<=n)&&decide (n<(k:Int))
def BL(n:Int):Bool:=decide (0<=n)&&decide (n<=2147483647)
def Ch(a:Int):Bool:=decide ((if F6 a then 2143289344 else a)=a)
def Al(t:Ty)(n:Nat):Bool:=if t.kind=1\/t.kind=2 then t.par==0 else if t.kind=3 then Ao t.par n else false
def Cp(s:Sl):Bool:=if s.ty.kind=2 then s.bits==0&&BL s.int_ else s.int_==0&&Ch s.bits
def AB(s:Sl)(n:Nat):Bool:=Al s.ty n&&Cp s
def B4(l:List Ty)(n:Int):Ty:=if Ao n l.length then(l[n.toNat]?).getD ⟨0,0⟩else⟨0,0⟩
def D9(i:Au)(r:Rw):Int:=if r.d=0 then i.a else i.d
def Ae(l:List Ty)(i:Au)(r:Rw):Ty:=B4 l (D9 i r)
def CB(l:Int)(t m:Ty):Bool:=
 if l=1 then t.kind==1
 else if l=2 then t.kind==2
 else if l=3 then t.kind==3
 else if l=4 then t.kind==1||t.kind==3
 else if l=5 then decide (t=m)||(t.kind==1&&m.kind==3)
 else decide (t=m)
def A7(rs:List Ty)(l n:Int)(m:Ty):Bool:=if l=0 then n==0 else Ao n rs.length&&CB l (B4 rs n) m
def Dp(ps:List AF)(n:Int):Int:=((ps[n.toNat]?).map fun p=>p.kind).getD 0
def Cf(ss:List Sl)(n:Int):Ty:=((ss[n.toNat]?).map fun s=>s.ty).getD ⟨0,0⟩
def Cx(c:Cd)(n l:Int)(m:Ty):Bool:=
 if l=8 then BL n
 else if l=9 then n==0||(n==1&&Dp c.sign m.par==2)
 else if l=10 then Ao n c.slots.length&&decide (Cf c.slots n=m)
 else if l=11 then Ao n c.sign.length
 else n==0
def AG(c:Cd)(i:Au)(l:Int)(m:Ty):Bool:=if l=7 then i.n==0&&Ch i.bits else i.bits==0&&Cx c i.n l m
def AR(c:Cd)(i:Au)(r:Rw):Bool:=
 A7 c.regs r.d i.d (Ae c.regs i r)&&(A7 c.regs r.a i.a (Ae c.regs i r)&&(A7 c.regs r.b i.b (Ae c.regs i r)&&(A7 c.regs r.c i.c (Ae c.regs i r)&&AG c i r.n (Ae c.regs i r))))
structure Bk where
 loop:Bool
 par:Int
 ahead:Nat
structure Wk where
 set:List Nat
 opens:List Bk
def inLoop(s:Wk):Bool:=match s.opens with |b::_=>b.loop|[]=>false
def AT(s:Wk):Int:=match s.opens with |b::_=>b.par|[]=>0
def Aj(c:Cd)(s:Wk)(i:Au)(r:Rw):Bool:=
 if i.op=34\/i.op=36 then !inLoop s&&decide (s.opens.length<64)
 else if i.op=35 then !s.opens.isEmpty&& !inLoop s
 else if i.op=37 then inLoop s
 else !inLoop s||(AY i.op&&decide (Ae c.regs i r=⟨3,AT s⟩))
def AV(i:Au)(r:Rw):List Int:=(if r.a=0 then [] else [i.a])++((if r.b=0 then [] else [i.b])++(if r.c=0 then [] else [i.c]))
def AU(s:Wk):Wk:=match s.opens with
 |b::r=>⟨if b.loop then s.set else s.set.take b.ahead,r⟩
 |[]=>s
def Bc(s:Wk)(i:Au):Wk:=
 if i.op=34\/i.op=36 then⟨s.set,⟨i.op==36,i.n,s.set.length⟩::s.opens⟩else if i.op=35\/i.op=37 then AU s else s
def Dw(s:Wk)(i:Au)(r:Rw):Wk:=if r.d≠0/\i.d.toNat∉s.set then⟨s.set++[i.d.toNat],s.opens⟩else s
def CE(s:Wk)(i:Au)(r:Rw):Wk:=Dw (Bc s i) i r
def C9(s:Wk)(i:Au)(r:Rw):Bool:=(AV i r).all fun n=>decide (n.toNat∈s.set)
def AD(c:Cd)(s:Wk)(i:Au):Bool:=AH i.op&&(AR c i (A6 i.op)&&(Aj c s i (A6 i.op)&&C9 s i (A6 i.op)))
def AA(s:Wk)(i:Au):Wk:=CE s i (A6 i.op)
def F5(c:Cd):Wk->Nat->List Au->Int×Int
 |s,k,[]=>if s.opens.isEmpty then(0,0)else(160,k)
 |s,k,i::r=>if AD c s i then F5 c (AA s i) (k+1) r else(160,k)
def Ar(c:Cd):Bool:=c.regs.all fun t=>Al t c.sign.length
def Bf(c:Cd):Bool:=c.slots.all fun s=>AB s c.sign.length
def Be(c:Cd):Int:=
 if AN c.sign≠0 then AN c.sign
 else if 16384<c.regs.length\/32768<c.list.length then 181
 else if 4096<c.slots.length then 180
 else if Ar c&&Bf c then 0 else 160
def A9(c:Cd):Int×Int:=if Be c≠0 then(Be c,-1)else F5 c ⟨[],[]⟩ 0 c.list
def Hf:Nat->List Bk->Prop
 |_,[]=>True
 |n,b::r=>b.ahead<=n/\Hf b.ahead r
theorem Hf.mono:∀ {r:List Bk} {n m:Nat},Hf n r->n<=m->Hf m r
 |[],_,_,_,_=>trivial
 |b::r,n,m,h,k=>⟨gH h.1 k,h.2⟩
structure BM(n:Nat)(s:Wk):Prop where
 nodup:s.set.Nodup
 lt:∀x∈s.set,x<n
 opens:Hf s.set.length s.opens
 nest:s.opens.length<=64
theorem BM.start(n:Nat):BM n ⟨[],[]⟩:=⟨List.nodup_nil,fun x h=>absurd h sM,trivial,gI _⟩
theorem BM.leave{n:Nat}{s:Wk}(h:BM n s):BM n (AU s):=by
 obtain⟨X,O⟩:=s;cases O with
 |nil=>exact h
 |cons b r=>
  obtain⟨h1,h2,⟨h3,h4⟩,h5⟩:=h;simp only[AU];simp only at h1 h2 h3 h4 h5;split
  .exact⟨h1,h2,h4.mono h3,by simp at h5 |-;omega⟩
  .refine⟨List.Sublist.nodup (List.take_sublist _ _) h1,fun x hx=>h2 x (List.mem_of_mem_take hx),?_,by simp at h5 |-;omega⟩;simp only[List.length_take];rw[Nat.min_eq_left h3];exact h4
theorem BM.turn{n:Nat}{s:Wk}{i:Au}(h:BM n s)(hm:i.op=34\/i.op=36->s.opens.length<64):BM n (Bc s i):=by
 unfold Bc;split
 .rename_i e;exact⟨h.nodup,h.lt,⟨gF _,h.opens⟩,by have:=hm e;simp;omega⟩
 .split
  .exact h.leave
  .exact h
theorem BM.add{n:Nat}{s:Wk}{i:Au}{r:Rw}(h:BM n s)(hd:r.d≠0->i.d.toNat<n):BM n (Dw s i r):=by
 unfold Dw;split
 .rename_i e;refine⟨?_,fun x hx=>?_,h.opens.mono sM,h.nest⟩
  .rw[List.nodup_append];refine⟨h.nodup,sM,fun a ha b hb=>?_⟩;simp at hb;subst hb;exact fun e'=>e.2 (e'▸ha)
  .rcases List.mem_append.1 hx with hx|hx
   .exact h.lt x hx
   .simp at hx;subst hx;exact hd e.1
 .exact h
theorem Ff:∀ {n:Nat} {l:List Nat},l.Nodup->(∀x∈l,x<n)->l.length<=n:=by
 intro n;induction n with
 |zero=>intro l _ h;cases l with
  |nil=>exact gF _
  |cons a t=>exact absurd (h a sM) (Nat.not_lt_zero _)
 |succ n ih=>
  intro l hd h;have h1:=ih (l:=l.erase n) (hd.erase n) fun x hx=>by
   have h2:=h x (List.mem_of_mem_erase hx);have h3:x≠n:=fun e=>by
    subst e;exact(List.Nodup.not_mem_erase hd) hx
   omega
  have h2:l.length<=(l.erase n).length+1:=by
   rw[List.length_erase];split<;>omega
  omega
theorem BM.len{n:Nat}{s:Wk}(h:BM n s):s.set.length<=n:=Ff h.nodup h.lt
theorem Cy{n:Int}{k:Nat}:Ao n k=true↔0<=n/\n<(k:Int):=by unfold Ao;simp
theorem B2{rs:List Ty}{l n:Int}{m:Ty}(h:A7 rs l n m=true)(hl:l≠0):0<=n/\n<(rs.length:Int):=by
 unfold A7 at h;rw[if_neg hl]at h;simp only[Bool.and_eq_true]at h;exact Cy.1 h.1
theorem Es{c:Cd}{i:Au}{r:Rw}(h:AR c i r=true):A7 c.regs r.d i.d (Ae c.regs i r)=true:=by
 unfold AR at h;simp only[Bool.and_eq_true]at h;exact h.1
theorem G9{c:Cd}{i:Au}{r:Rw}(h:AR c i r=true):A7 c.regs r.a i.a (Ae c.regs i r)=true:=by
 unfold AR at h;simp only[Bool.and_eq_true]at h;exact h.2.1
theorem Ga{c:Cd}{i:Au}{r:Rw}(h:AR c i r=true):A7 c.regs r.b i.b (Ae c.regs i r)=true:=by
 unfold AR at h;simp only[Bool.and_eq_true]at h;exact h.2.2.1
theorem Gb{c:Cd}{i:Au}{r:Rw}(h:AR c i r=true):A7 c.regs r.c i.c (Ae c.regs i r)=true:=by
 unfold AR at h;simp only[Bool.and_eq_true]at h;exact h.2.2.2.1
theorem Ep{c:Cd}{s:Wk}{i:Au}(h:AD c s i=true):AH i.op=true/\AR c i (A6 i.op)=true/\Aj c s i (A6 i.op)=true/\C9 s i (A6 i.op)=true:=by
 unfold AD at h;simp only[Bool.and_eq_true]at h;exact h
theorem CK{c:Cd}{s:Wk}{i:Au}{r:Rw}(h:Aj c s i r=true)(e:i.op=34\/i.op=36):s.opens.length<64:=by
 unfold Aj at h;rw[if_pos e]at h;simp only[Bool.and_eq_true,decide_eq_true_eq]at h;exact h.2
theorem BM.step{c:Cd}{s:Wk}{i:Au}(h:BM c.regs.length s)(t:AD c s i=true):BM c.regs.length (AA s i):=by
 obtain⟨_,h2,h3,_⟩:=Ep t;refine(h.turn (CK h3)).add fun hd=>?_;have:=B2 (Es h2) hd;omega
theorem EU(a:Int)(h0:0<=a)(h1:a<4294967296)(w:World):
 Calls prog 88 #[.int .u32 a] w fun e w'=>e=.returned (.tuple #[.bool (decide (2147483648<=a)),.int .i64 (a/8388608%256),.int .i64 (a%8388608)])/\w'=w:=by
 have e1:=Dz a h0 h1;have e2:=Hb (a/8388608) oM oM;have e3:=GK a h0 h1;go_enter func88,ntmps88;go_wp2
 go_ret3
 exact⟨rfl,rfl⟩
theorem D6(a:Int)(h0:0<=a)(h1:a<4294967296)(w:World):
 Calls prog 86 #[.int .u32 a] w fun e w'=>e=.returned (.int .i64 (DS a))/\w'=w:=by
 by_cases c1:a/8388608%256=255
 .by_cases c2:a%8388608=0
  .have hc:DS a=4:=by unfold DS;rw[if_pos c1,if_pos c2]
   exact H9
  .have hc:DS a=5:=by unfold DS;rw[if_pos c1,if_neg c2]
   exact H9
 .by_cases c2:a/8388608%256=0
  .by_cases c3:a%8388608=0
   .have hc:DS a=1:=by unfold DS;rw[if_neg c1,if_pos c2,if_pos c3]
    exact H9
   .have hc:DS a=2:=by unfold DS;rw[if_neg c1,if_pos c2,if_neg c3]
    exact H9
  .have hc:DS a=3:=by unfold DS;rw[if_neg c1,if_neg c2]
   exact H9
theorem EH(a:Int)(h0:0<=a)(h1:a<4294967296)(hn:F6 a=true)(w:World):
 Calls prog 86 #[.int .u32 a] w fun e w'=>e=.returned (.int .i64 5)/\w'=w:=by
 have:=D6 a h0 h1 w;rwa[G7 a hn h0 h1]at this
theorem EG(a:Int)(h0:0<=a)(h1:a<4294967296)(w:World):
 Calls prog 84 #[.int .u32 a] w fun e w'=>e=.returned (.int .u32 (BO a))/\w'=w:=by
 cases hn:F6 a
 .have hc:BO a=a:=by unfold BO;simp[hn]
  have h5:(DS a==5)=false:=by have:=G8 a hn h0 h1;simpa using this
  rw[hc];clear hc hn;go_enter func84,ntmps84;go_wp2_with(go_at_call 86;refine(D6 _ h0 h1 _).mono ?_;rintro e w' ⟨rfl,rfl⟩);go_ret;exact⟨rfl,rfl⟩
 .have hc:BO a=2143289344:=by unfold BO;simp[hn]
  rw[hc];clear hc;go_enter func84,ntmps84;go_wp2_with(go_at_call 86;refine(EH _ h0 h1 hn _).mono ?_;rintro e w' ⟨rfl,rfl⟩);go_ret;exact⟨rfl,rfl⟩
def DV(t:Ty):List Value:=[.int .i64 t.kind,.int .i64 t.par]
def Ex(s:Sl):List Value:=[.int .i64 s.ty.kind,.int .i64 s.ty.par,.bool s.keep,.int .u32 s.bits,.int .i64 s.int_]
def B9(i:Au):List Value:=[.int .i64 i.op,.int .i64 i.d,.int .i64 i.a,.int .i64 i.b,.int .i64 i.c,.int .i64 i.n,.int .u32 i.bits]
theorem BY(t:Ty):(DV t).length=2:=rfl
theorem Co(t:Sl):(Ex t).length=5:=rfl
theorem Ba(t:Au):(B9 t).length=7:=rfl
theorem Bz(t:AF):(Az t).length=3:=rfl
def Ck(t:Ty):Value:=.agg #[.int .i64 t.kind,.int .i64 t.par]
def AW(r:Rw):Value:=.agg #[.int .i64 r.d,.int .i64 r.a,.int .i64 r.b,.int .i64 r.c,.int .i64 r.n]
theorem kc{w w':World}(k:Below w.heap.size w w'){a:Addr}{v:Value}(h:w.cell? a=some v):w'.cell? a=some v:=(k.cell (Ad h)).trans h
def A8(w:World)(b o:Nat)(cs:List Value):Prop:=∀j (h:j<cs.length),w.cell? ⟨b,o+j,none⟩=some cs[j]
theorem A8.below{w w':World}{b o:Nat}{cs:List Value}(h:A8 w b o cs)(k:Below w.heap.size w w'):A8 w' b o cs:=fun j hj=>(k.cell (Ad (h j hj))).trans (h j hj)
theorem A8.at{w:World}{b o:Nat}{cs:List Value}(h:A8 w b o cs)(j:Nat){v:Value}(e:cs[j]? =some v):w.cell? ⟨b,o+j,none⟩=some v:=by
 obtain⟨hj,e⟩:=List.getElem?_eq_some_iff.1 e;rw[h j hj,e]
theorem A8.of_block{w w':World}{b o:Nat}{cs:List Value}(h:A8 w b o cs)(e:w'.heap[b]? =w.heap[b]?):A8 w' b o cs:=fun j hj=>(gC e).trans (h j hj)
def AQ{α:Type}(k:Nat)(f:α->List Value)(w:World)(v:Value)(l:List α):Prop:=
 ∃p c,v=.slice p l.length c/\(l=[]\/∃b o,p=some ⟨b,o,none⟩/\∀i (h:i<l.length),A8 w b (o+i*k) (f l[i]))
theorem AQ.below{α:Type}{k:Nat}{f:α->List Value}{w w':World}{v:Value}{l:List α}(h:AQ k f w v l)(q:Below w.heap.size w w'):AQ k f w' v l:=by
 obtain⟨p,c,hv,h⟩:=h;exact⟨p,c,hv,h.imp id fun⟨b,o,hp,h⟩=>⟨b,o,hp,fun i hi=>(h i hi).below q⟩⟩
theorem AQ.at{α:Type}{k:Nat}{f:α->List Value}{w:World}{p:Option Addr}{n c:Nat}{l:List α}(h:AQ k f w (.slice p n c) l){i:Nat}(hi:i<l.length):∃b o,p=some ⟨b,o,none⟩/\A8 w b (o+i*k) (f l[i]):=by
 obtain⟨p',c',hv,h⟩:=h;simp only[Value.slice.injEq]at hv;obtain⟨rfl,rfl,rfl⟩:=hv;rcases h with h|⟨b,o,hp,h⟩
 .rw[h]at hi;exact absurd hi (Nat.not_lt_zero _)
 .exact⟨b,o,hp,h i hi⟩
theorem AQ.rd{w:World}{v:Value}{l:List AF}(h:AQ 3 Az w v l):Rd w v l:=by
 obtain⟨p,c,hv,h⟩:=h;exact⟨p,c,hv,h.imp id fun⟨b,o,hp,h⟩=>⟨b,o,hp,fun i hi=>⟨(h i hi).at 0 rfl,(h i hi).at 1 rfl,(h i hi).at 2 rfl⟩⟩⟩
structure CU(w:World)(v0 v1 v2 v3:Value)(c:Cd):Prop where
 sign:AQ 3 Az w v0 c.sign
 regs:AQ 2 DV w v1 c.regs
 slots:AQ 5 Ex w v2 c.slots
 list:AQ 7 B9 w v3 c.list
theorem CU.below{w w':World}{v0 v1 v2 v3:Value}{c:Cd}(h:CU w v0 v1 v2 v3 c)(k:Below w.heap.size w w'):CU w' v0 v1 v2 v3 c:=⟨h.sign.below k,h.regs.below k,h.slots.below k,h.list.below k⟩
def As(w:World)(C:Nat)(v0 v1 v2 v3:Value)(c:Cd):Prop:=A8 w C 0 [v0,v1,v2,v3]/\CU w v0 v1 v2 v3 c
theorem As.below{w w':World}{C:Nat}{v0 v1 v2 v3:Value}{c:Cd}(h:As w C v0 v1 v2 v3 c)(k:Below w.heap.size w w'):As w' C v0 v1 v2 v3 c:=⟨h.1.below k,h.2.below k⟩
structure AX(c:Cd):Prop where
 signL:c.sign.length<=140737488351232
 names:∀p∈c.sign,p.name.size<=140737488351232
 regsL:c.regs.length<=140737488351232
 slotsL:c.slots.length<=140737488351232
 listL:c.list.length<=140737488351232
 sbits:∀s∈c.slots,0<=s.bits/\s.bits<4294967296
 ibits:∀i∈c.list,0<=i.bits/\i.bits<4294967296
theorem AS(n:Int)(k:Nat)(w:World):Calls prog 76 #[.int .i64 n,.int .i64 k] w fun e w'=>e=.returned (.bool (Ao n k))/\w'=w:=by
 unfold Ao;by_cases h:0<=n
 all_goals
  go_enter func76,ntmps76;go_wp2;go_ret;exact⟨Aa (by simp[h];try omega),rfl⟩
theorem Cc(n:Int)(w:World):Calls prog 77 #[.int .i64 n] w fun e w'=>e=.returned (.bool (BL n))/\w'=w:=by
 unfold BL;by_cases h:0<=n
 all_goals
  go_enter func77,ntmps77;go_wp2;go_ret;exact⟨Aa (by simp[h];try omega),rfl⟩
theorem Cz(a:Int)(h0:0<=a)(h1:a<4294967296)(w:World):Calls prog 78 #[.int .u32 a] w fun e w'=>e=.returned (.bool (Ch a))/\w'=w:=by
 have hc:Ch a=(BO a==a):=by unfold Ch BO;cases F6 a<;>rw[Bool.eq_iff_iff]<;>simp
 rw[hc];have HK:Hid (∀w,Calls prog 84 #[.int .u32 a] w fun e w'=>e=.returned (.int .u32 (BO a))/\w'=w):=EG a h0 h1;clear hc;obtain⟨x,hx⟩:=gA (BO a)
 rw[hx]at HK |-;clear hx;go_enter func78,ntmps78;go_wp2_with(go_at_call 84;refine(HK.out _).mono ?_;rintro e w1 ⟨rfl,rfl⟩);go_ret;exact⟨rfl,rfl⟩
theorem BI(t:Ty)(p:Option Addr)(n c:Nat)(hn:n<=140737488351232)(w:World):Calls prog 59 #[Ck t,.slice p n c] w fun e w'=>e=.returned (.bool (Al t n))/\Below w.heap.size w w':=by
 obtain⟨K,P⟩:=t;have HK:Hid (∀w,Calls prog 76 #[.int .i64 P,.int .i64 n] w fun e w'=>e=.returned (.bool (Ao P n))/\w'=w):=AS P n;unfold Al Ck;simp only;by_cases h1:K=1
 .subst h1;rw[if_pos (Or.inl rfl)];exact HJ
 .by_cases h2:K=2
  .subst h2;rw[if_pos (Or.inr rfl)];exact HJ
  .rw[if_neg (fun e=>e.elim h1 h2)];have h1':(K==1)=false:=by simpa using h1
   have h2':(K==2)=false:=by simpa using h2
   by_cases h3:K=3
   .subst h3;rw[if_pos rfl];go_enter func59,ntmps59;exact Ig
   .rw[if_neg h3];have h3':(K==3)=false:=by simpa using h3
    clear h1 h2 h3;exact HJ
def I4(s:Sl):Value:=.agg #[.int .i64 s.ty.kind,.int .i64 s.ty.par,.bool s.keep,.int .u32 s.bits,.int .i64 s.int_]
theorem DW(s:Sl)(h0:0<=s.bits)(h1:s.bits<4294967296)(w:World):Calls prog 60 #[I4 s] w fun e w'=>e=.returned (.bool (Cp s))/\Below w.heap.size w w':=by
 have HK:Hid (∀w,Calls prog 78 #[.int .u32 s.bits] w fun e w'=>e=.returned (.bool (Ch s.bits))/\w'=w):=Cz s.bits h0 h1;have HL:Hid (∀w,Calls prog 77 #[.int .i64 s.int_] w fun e w'=>e=.returned (.bool (BL s.int_))/\w'=w):=Cc s.int_;obtain⟨⟨K,P⟩,Q,B,I⟩:=s;unfold Cp I4;simp only at HK HL h0 h1 |-;obtain⟨X,hX⟩:=gA (Ch B)
 obtain⟨Y,hY⟩:=gA (BL I)
 rw[hX]at HK |-;rw[hY]at HL |-;clear hX hY;by_cases h2:K=2
 .subst h2;rw[if_pos rfl];cases hb:(B==0)
  all_goals
   go_enter func60,ntmps60;go_wp2_with(go_at_call 77;refine(HL.out _).mono ?_;rintro e w1 ⟨rfl,rfl⟩);go_ret;exact⟨Aa (by simp[hb]),A0 _ _⟩
 .rw[if_neg h2];have h2':(K==2)=false:=by simpa using h2
  clear h2;cases hb:(I==0)
  all_goals
   go_enter func60,ntmps60;go_wp2_with(go_at_call 78;refine(HK.out _).mono ?_;rintro e w1 ⟨rfl,rfl⟩);go_ret;exact⟨Aa (by simp[hb]),A0 _ _⟩
theorem G2(K P L Q:Int):decide ((⟨K,P⟩:Ty)=⟨L,Q⟩)=(K==L&&P==Q):=by
 rw[Bool.eq_iff_iff];simp
theorem EO(l:Int)(t m:Ty)(w:World):Calls prog 79 #[.int .i64 l,Ck t,Ck m] w fun e w'=>e=.returned (.bool (CB l t m))/\Below w.heap.size w w':=by
 obtain⟨K,P⟩:=t;obtain⟨L,Q⟩:=m;unfold CB Ck;simp only[G2];by_cases h1:l=1
 .subst h1;rw[if_pos rfl];exact HH
 rw[if_neg h1];by_cases h2:l=2
 .subst h2;rw[if_pos rfl];clear h1;exact HH
 rw[if_neg h2];by_cases h3:l=3
 .subst h3;rw[if_pos rfl];clear h1 h2;exact HH
 rw[if_neg h3];by_cases h4:l=4
 .subst h4;rw[if_pos rfl];clear h1 h2 h3;cases hk:(K==1)
  all_goals
   go_enter func79,ntmps79;go_wp2;go_ret;exact⟨Aa (by simp[hk]),bel (A0 _ _) (A0 _ _)⟩
 rw[if_neg h4];by_cases h5:l=5
 .subst h5;rw[if_pos rfl];clear h1 h2 h3 h4;cases hk:(K==1)<;>cases hl:(K==L)<;>cases hq:(P==Q)
  all_goals
   go_enter func79,ntmps79;go_wp2;go_ret;exact⟨Aa (by simp[hk,hl,hq]),bel (A0 _ _) (A0 _ _)⟩
 rw[if_neg h5];have h1':(l==1)=false:=by simpa using h1
 have h2':(l==2)=false:=by simpa using h2
 have h3':(l==3)=false:=by simpa using h3
 have h4':(l==4)=false:=by simpa using h4
 have h5':(l==5)=false:=by simpa using h5
 clear h1 h2 h3 h4 h5;go_enter func79,ntmps79;go_wp2
 all_goals
  go_ret;exact⟨Aa (by simp[*]),bel (A0 _ _) (A0 _ _)⟩
theorem Ds{l:List Ty}{n:Int}{k:Nat}(h:n=(k:Int))(hk:k<l.length):B4 l n=l[k]:=by
 subst h;unfold B4;rw[if_pos (Cy.2 ⟨oM,oM⟩),Int.toNat_natCast,gB hk];rfl
theorem CF{n:Int}{k:Nat}(h:Ao n k=true):∃m:Nat,n=(m:Int)/\m<k:=by
 obtain⟨h0,h1⟩:=Cy.1 h;exact⟨n.toNat,oM,oM⟩
theorem Ax(C:Nat)(v0 v1 v2 v3:Value)(c:Cd)(hk:AX c)(l n:Int)(m:Ty)(w:World)(hc:As w C v0 v1 v2 v3 c):
 Calls prog 63 #[.pointer (some ⟨C,0,none⟩),.int .i64 l,.int .i64 n,Ck m] w fun e w'=>e=.returned (.bool (A7 c.regs l n m))/\Below w.heap.size w w':=by
 unfold A7;by_cases h0:l=0
 .subst h0;rw[if_pos rfl];unfold Ck;go_enter func63,ntmps63;go_wp2;go_ret;exact⟨rfl,A0 _ _⟩
 rw[if_neg h0];have h0':(l==0)=false:=by simpa using h0
 clear h0;have HB:=hk.regsL;have K1:=AS n c.regs.length;obtain⟨hcc,hcv⟩:=hc;have c1:=hcc.at 1 rfl;rw[Nat.zero_add]at c1;have hr:=hcv.regs;obtain⟨p,q,rfl,hrr⟩:=hcv.regs;have HN:Hid (c.regs.length=c.regs.length):=rfl;obtain⟨X,hX⟩:=gA (Ao n c.regs.length)
 simp only[hX]at K1;rw[hX];have hC:=Ad c1;simp only at hC;cases X
 .clear hr hrr hcc hcv;obtain⟨N,hN⟩:=gA (c.regs.length)
  rw[hN]at K1 c1 HB;have HK:Hid (∀w,Calls prog 76 #[.int .i64 n,.int .i64 N] w fun e w'=>e=.returned (.bool false)/\w'=w):=K1;clear hN K1 hX HN;obtain⟨A,B⟩:=m;unfold Ck;go_enter func63,ntmps63;go_wp2;have hC':C≠w.heap.size:=oM;refine rG (fun v=>v.cell? ⟨C,1,none⟩=some (.slice p N q)) fun hJ=>?_;exact I6
 .obtain⟨k,hnk,hkl⟩:=CF hX;rw[Ds hnk hkl];have hti:c.regs[k]=c.regs[k]:=rfl;obtain⟨b,o,hp,hx⟩:=hr.at hkl;subst hp;subst hnk;have x0:=hx.at 0 rfl;have x1:=hx.at 1 rfl;rw[Nat.add_zero]at x0;have hbl:=Ad x0;simp only at hbl;have K2:=EO l c.regs[k] m;obtain⟨T,hT⟩:=gA (c.regs[k])
  rw[hT]at x0 x1 K2 |-;obtain⟨N,hN⟩:=gA (c.regs.length)
  rw[hN]at K1 c1 HB hkl;have HK:Hid (∀w,Calls prog 76 #[.int .i64 (k:Int),.int .i64 N] w fun e w'=>e=.returned (.bool true)/\w'=w):=K1;clear hN K1 hX HN hr hrr hcc hcv hx hti hT;obtain⟨A,B⟩:=m;obtain⟨D,E⟩:=T;unfold Ck at K2 |-;simp only at x0 x1 K2 |-;obtain⟨Y,hY⟩:=gA (CB l ⟨D,E⟩ ⟨A,B⟩)
  rw[hY]at K2 |-;have HM:Hid (∀w,Calls prog 79 #[.int .i64 l,.agg #[.int .i64 D,.int .i64 E],.agg #[.int .i64 A,.int .i64 B]] w fun e w'=>e=.returned (.bool Y)/\Below w.heap.size w w'):=K2;clear K2 hY;have i1:(0:Int)<=(k:Int):=oM;have i2:(k:Int)<(N:Int):=oM;have hC':C≠w.heap.size:=oM;have hb':b≠w.heap.size:=oM;have HC:Hid (∀v,Below (w.alloc (.cells #[.int .i64 A,.int .i64 B] 47)).heap.size (w.alloc (.cells #[.int .i64 A,.int .i64 B] 47)) v->v.cell? ⟨C,1,none⟩=some (.slice (some ⟨b,o,none⟩) N q)/\v.cell? ⟨b,o+k*2,none⟩=some (.int .i64 D)/\v.cell? ⟨b,o+k*2+1,none⟩=some (.int .i64 E)/\v.cell? ⟨w.heap.size,0,none⟩=some (.int .i64 A)/\v.cell? ⟨w.heap.size,1,none⟩=some (.int .i64 B)):=
   fun v hv=>⟨kc hv (kc (A0 _ _) c1),kc hv (kc (A0 _ _) x0),kc hv (kc (A0 _ _) x1),kc hv sG,kc hv sG⟩
  go_enter func63,ntmps63;go_wp2;refine rG (fun v=>v.cell? ⟨C,1,none⟩=some (.slice (some ⟨b,o,none⟩) N q)/\v.cell? ⟨b,o+k*2,none⟩=some (.int .i64 D)/\v.cell? ⟨b,o+k*2+1,none⟩=some (.int .i64 E)/\v.cell? ⟨w.heap.size,0,none⟩=some (.int .i64 A)/\v.cell? ⟨w.heap.size,1,none⟩=some (.int .i64 B)) fun hJ=>?_;refine wpAnyH_take (i:=0) (v:=?_) A1 kR kR kR A2 (Or.inl ⟨rF,?_⟩) A3 ?_
  rotate_left 1
  ·(intro wS hSw;(try dsimp only at hSw);go_simp;try(with_reducible rfl))
  try simp only[Act.put,List.setIfInBounds_toArray,List.set_cons_zero,List.set_cons_succ]
  refine wpAnyH_take (i:=1) (v:=?_) A1 kR kR kR A2 (Or.inl ⟨rF,?_⟩) A3 ?_
  rotate_left 1
  ·(intro wS hSw;(try dsimp only at hSw);go_simp;try(with_reducible rfl))
  try simp only[Act.put,List.setIfInBounds_toArray,List.set_cons_zero,List.set_cons_succ]
  refine wpAnyH_take (i:=2) (v:=?_) A1 kR kR kR A2 (Or.inl ⟨rF,?_⟩) A3 ?_
  rotate_left 1
  ·(intro wS hSw;(try dsimp only at hSw);go_simp;try(with_reducible rfl))
  try simp only[Act.put,List.setIfInBounds_toArray,List.set_cons_zero,List.set_cons_succ]
  refine wpAnyH_take (i:=3) (v:=?_) A1 kR kR kR A2 (Or.inl ⟨rF,?_⟩) A3 ?_
  rotate_left 1
  ·(intro wS hSw;(try dsimp only at hSw);go_simp;try(with_reducible rfl))
  try simp only[Act.put,List.setIfInBounds_toArray,List.set_cons_zero,List.set_cons_succ]
  refine wpAnyH_take (i:=4) (v:=?_) A1 kR kR kR A2 (Or.inl ⟨rF,?_⟩) A3 ?_
  rotate_left 1
  ·(intro wS hSw;(try dsimp only at hSw);go_simp;try(with_reducible rfl))
  try simp only[Act.put,List.setIfInBounds_toArray,List.set_cons_zero,List.set_cons_succ]
  refine wpAnyH_take (i:=5) (v:=?_) A1 kR kR kR A2 (Or.inl ⟨rF,?_⟩) A3 ?_
  rotate_left 1
  ·(intro wS hSw;(try dsimp only at hSw);go_simp;try(with_reducible rfl))
  try simp only[Act.put,List.setIfInBounds_toArray,List.set_cons_zero,List.set_cons_succ]
  clear hJ;refine B5 6 fun K hK=>?_;go_simp;(go_at_call 76;refine(HK.out _).mono ?_;rintro e w1 ⟨rfl,rfl⟩);try(go_wp2_with fail)
  refine B3 hK fun hJ=>?_;clear hK K;refine wpAnyH_take (i:=7) (v:=?_) A1 kR kR kR A2 (Or.inl ⟨rF,?_⟩) A3 ?_
  rotate_left 1
  ·(intro wS hSw;(try dsimp only at hSw);go_simp;try(with_reducible rfl))
  try simp only[Act.put,List.setIfInBounds_toArray,List.set_cons_zero,List.set_cons_succ]
  refine wpAnyH_take (i:=8) (v:=?_) A1 kR kR kR A2 (Or.inl ⟨rF,?_⟩) A3 ?_
  rotate_left 1
  ·(intro wS hSw;(try dsimp only at hSw);go_simp;try(with_reducible rfl))
  try simp only[Act.put,List.setIfInBounds_toArray,List.set_cons_zero,List.set_cons_succ]
  refine wpAnyH_take (i:=9) (v:=?_) A1 kR kR kR A2 (Or.inl ⟨rF,?_⟩) A3 ?_
  rotate_left 1
  ·(intro wS hSw;(try dsimp only at hSw);go_simp;try(with_reducible rfl))
  try simp only[Act.put,List.setIfInBounds_toArray,List.set_cons_zero,List.set_cons_succ]
  refine wpAnyH_take (i:=10) (v:=?_) A1 kR kR kR A2 (Or.inl ⟨rF,?_⟩) A3 ?_
  rotate_left 1
  ·(intro wS hSw;(try dsimp only at hSw);go_simp;try(with_reducible rfl))
  try simp only[Act.put,List.setIfInBounds_toArray,List.set_cons_zero,List.set_cons_succ]
  refine wpAnyH_take (i:=11) (v:=?_) A1 kR kR kR A2 (Or.inl ⟨rF,?_⟩) A3 ?_
  rotate_left 1
  ·(intro wS hSw;(try dsimp only at hSw);go_simp;try(with_reducible rfl))
  try simp only[Act.put,List.setIfInBounds_toArray,List.set_cons_zero,List.set_cons_succ]
  refine wpAnyH_take (i:=12) (v:=?_) A1 kR kR kR A2 (Or.inl ⟨rF,?_⟩) A3 ?_
  rotate_left 1
  ·(intro wS hSw;(try dsimp only at hSw);go_simp;try(with_reducible rfl))
  try simp only[Act.put,List.setIfInBounds_toArray,List.set_cons_zero,List.set_cons_succ]
  refine wpAnyH_take (i:=13) (v:=?_) A1 kR kR kR A2 (Or.inl ⟨rF,?_⟩) A3 ?_
  rotate_left 1
  ·(intro wS hSw;(try dsimp only at hSw);go_simp;try(with_reducible rfl))
  try simp only[Act.put,List.setIfInBounds_toArray,List.set_cons_zero,List.set_cons_succ]
  refine wpAnyH_take (i:=14) (v:=?_) A1 kR kR kR A2 (Or.inl ⟨rF,?_⟩) A3 ?_
  rotate_left 1
  ·(intro wS hSw;(try dsimp only at hSw);go_simp;try(with_reducible rfl))
  try simp only[Act.put,List.setIfInBounds_toArray,List.set_cons_zero,List.set_cons_succ]
  refine wpAnyH_take (i:=15) (v:=?_) A1 kR kR kR A2 (Or.inl ⟨rF,?_⟩) A3 ?_
  rotate_left 1
  ·(intro wS hSw;(try dsimp only at hSw);go_simp;try(with_reducible rfl))
  try simp only[Act.put,List.setIfInBounds_toArray,List.set_cons_zero,List.set_cons_succ]
  refine wpAnyH_take (i:=16) (v:=?_) A1 kR kR kR A2 (Or.inl ⟨rF,?_⟩) A3 ?_
  rotate_left 1
  ·(intro wS hSw;(try dsimp only at hSw);go_simp;try(with_reducible rfl))
  try simp only[Act.put,List.setIfInBounds_toArray,List.set_cons_zero,List.set_cons_succ]
  clear hJ;refine B5 17 fun K hK=>?_;go_simp;(go_at_call 79;refine(HM.out _).mono ?_;rintro e w1 ⟨rfl,hb1⟩;have HB1:=bel (A5 _) hb1;obtain⟨y0,y1,y2,y3,y4⟩:=HC.out w1 HB1);try(go_wp2_with fail)
  refine B3 hK fun hJ=>?_;clear hK K;refine wpAnyH_take (i:=18) (v:=?_) A1 kR kR kR A2 (Or.inl ⟨rF,?_⟩) A3 ?_
  rotate_left 1
  ·(intro wS hSw;(try dsimp only at hSw);go_simp;try(with_reducible rfl))
  try simp only[Act.put,List.setIfInBounds_toArray,List.set_cons_zero,List.set_cons_succ]
  refine wpAnyH_take (i:=19) (v:=?_) A1 kR kR kR A2 (Or.inl ⟨rF,?_⟩) A3 ?_
  rotate_left 1
  ·(intro wS hSw;(try dsimp only at hSw);go_simp;try(with_reducible rfl))
  try simp only[Act.put,List.setIfInBounds_toArray,List.set_cons_zero,List.set_cons_succ]
  refine wpAnyH_done kR ?_ _;go_wp2;go_ret;exact⟨sM,bel (A0 _ _) HB1⟩
theorem D4(C:Nat)(p:Option Addr)(N q:Nat)(l:List Ty)(b o:Nat)(i:Au)(r:Rw)(w:World)(hN:l.length=N)(c1:w.cell? ⟨C,1,none⟩=some (.slice p N q))(hr:AQ 2 DV w (.slice p N q) l)(hB:N<=140737488351232)(hi:A8 w b o (B9 i)):
 Calls prog 61 #[.pointer (some ⟨C,0,none⟩),.pointer (some ⟨b,o,none⟩),AW r] w fun e w'=>e=.returned (Ck (Ae l i r))/\Below w.heap.size w w':=by
 unfold Ae D9;have e1:=hi.at 1 rfl;have e2:=hi.at 2 rfl;have hC:=Ad c1;have hb:=Ad e1;simp only at hC hb;have n1:C≠w.heap.size:=oM;have n2:C≠w.heap.size+1:=oM;have n3:b≠w.heap.size:=oM;have n4:b≠w.heap.size+1:=oM;clear hi hC hb;obtain⟨D,A,B,X,Y⟩:=r;unfold AW;simp only;have HA:Hid (∀a v,w.cell? a=some v->((w.alloc (.cells #[.int .i64 D,.int .i64 A,.int .i64 B,.int .i64 X,.int .i64 Y] 89)).alloc (.cells #[.int .i64 0,.int .i64 0] 47)).cell? a=some v):=fun a v h=>kc (A0 _ _) (kc (A0 _ _) h);obtain⟨x,hx⟩:=gA ((if D=0 then i.a else i.d))
 rw[hx];have K1:=AS x N;have HX:Hid ((D=0/\x=i.a)\/(D≠0/\x=i.d)):=by
  show _\/_;by_cases h:D=0
  .rw[if_pos h]at hx;exact .inl ⟨h,hx.symm⟩
  .rw[if_neg h]at hx;exact .inr ⟨h,hx.symm⟩
 clear hx;obtain⟨P,hP⟩:=gA (Ao x N)
 simp only[hP]at K1;have HK:Hid (∀w,Calls prog 76 #[.int .i64 x,.int .i64 N] w fun e w'=>e=.returned (.bool P)/\w'=w):=K1;clear K1;cases P
 .have HT:Hid (B4 l x=⟨0,0⟩):=by show _=_;unfold B4;rw[hN,hP];rfl
  clear hP hr;rcases HX.out with⟨rfl,rfl⟩|⟨hD,rfl⟩
  .clear HX;have f1:=HA.out _ _ e1;have f2:=HA.out _ _ e2;have f3:=HA.out _ _ c1;exact Hn
  .clear HX;have hD':(D==0)=false:=by simpa using hD
   clear hD;have f1:=HA.out _ _ e1;have f2:=HA.out _ _ e2;have f3:=HA.out _ _ c1;exact Hn
 .obtain⟨k,hxk,hk⟩:=CF hP;have hkl:k<l.length:=oM;have HT:Hid (B4 l x=l[k]):=Ds hxk hkl;obtain⟨g,u,hp,hx⟩:=hr.at hkl;subst hp;have x0:=hx.at 0 rfl;have x1:=hx.at 1 rfl;rw[Nat.add_zero]at x0;obtain⟨T,hT⟩:=gA (l[k])
  rw[hT]at x0 x1 HT;obtain⟨E,G⟩:=T;simp only at x0 x1;have hg:=Ad x0;simp only at hg;have n5:g≠w.heap.size:=oM;have n6:g≠w.heap.size+1:=oM;have i1:(0:Int)<=(k:Int):=oM;have i2:(k:Int)<(N:Int):=oM;clear hP hr hx hT hg hN hkl;rcases HX.out with⟨rfl,hv⟩|⟨hD,hv⟩
  .clear HX;rw[<-hv,hxk]at e2;rw[hxk]at HK HT |-;clear hv hxk;have f1:=HA.out _ _ e1;have f2:=HA.out _ _ e2;have f3:=HA.out _ _ c1;have f4:=HA.out _ _ x0;have f5:=HA.out _ _ x1;exact Hn
  .clear HX;have hD':(D==0)=false:=by simpa using hD
   rw[<-hv,hxk]at e1;rw[hxk]at HK HT |-;clear hD hv hxk;have f1:=HA.out _ _ e1;have f2:=HA.out _ _ e2;have f3:=HA.out _ _ c1;have f4:=HA.out _ _ x0;have f5:=HA.out _ _ x1;exact Hn
theorem BS(C:Nat)(v0 v1 v2 v3:Value)(c:Cd)(hk:AX c)(b o:Nat)(i:Au)(r:Rw)(w:World)(hc:As w C v0 v1 v2 v3 c)(hi:A8 w b o (B9 i)):
 Calls prog 61 #[.pointer (some ⟨C,0,none⟩),.pointer (some ⟨b,o,none⟩),AW r] w fun e w'=>e=.returned (Ck (Ae c.regs i r))/\Below w.heap.size w w':=by
 obtain⟨hcc,hcv⟩:=hc;have c1:=hcc.at 1 rfl;rw[Nat.zero_add]at c1;have hr:=hcv.regs;obtain⟨p,q,rfl,hrr⟩:=hcv.regs;exact D4 C p _ q c.regs b o i r w rfl c1 hr hk.regsL hi
theorem Gd{l:List AF}{n:Int}{k:Nat}(h:n=(k:Int))(hk:k<l.length):Dp l n=l[k].kind:=by
 subst h;unfold Dp;rw[Int.toNat_natCast,gB hk];rfl
theorem FX{l:List Sl}{n:Int}{k:Nat}(h:n=(k:Int))(hk:k<l.length):Cf l n=l[k].ty:=by
 subst h;unfold Cf;rw[Int.toNat_natCast,gB hk];rfl
theorem E5(C:Nat)(v0 v1 v2 v3:Value)(c:Cd)(hk:AX c)(n:Int)(m:Ty)(w:World)(hc:As w C v0 v1 v2 v3 c)(hp:n=1->Ao m.par c.sign.length=true):
 Calls prog 80 #[.pointer (some ⟨C,0,none⟩),.int .i64 n,.int .i64 9,Ck m] w fun e w'=>e=.returned (.bool (n==0||(n==1&&Dp c.sign m.par==2)))/\Below w.heap.size w w':=by
 obtain⟨hcc,hcv⟩:=hc;have c1:=hcc.at 0 rfl;rw[Nat.zero_add]at c1;have hC:=Ad c1;simp only at hC;have n1:C≠w.heap.size:=oM;obtain⟨K,P⟩:=m;unfold Ck;simp only at hp |-;have f1:(w.alloc (.cells #[.int .i64 K,.int .i64 P] 47)).cell? ⟨C,0,none⟩=some v0:=kc (A0 _ _) c1;by_cases h0:n=0
 .subst h0;clear hp hcv hcc;go_enter func80,ntmps80;go_wp2;refine rG (fun v=>v.cell? ⟨C,0,none⟩=some v0) fun hJ=>?_;refine wpAnyH_take (i:=0) (v:=?_) A1 kR kR kR A2 (Or.inl ⟨rF,?_⟩) A3 ?_
  rotate_left 1
  ·(intro wS hSw;(try dsimp only at hSw);go_simp;try(with_reducible rfl))
  try simp only[Act.put,List.setIfInBounds_toArray,List.set_cons_zero,List.set_cons_succ]
  refine wpAnyH_take (i:=1) (v:=?_) A1 kR kR kR A2 (Or.inl ⟨rF,?_⟩) A3 ?_
  rotate_left 1
  ·(intro wS hSw;(try dsimp only at hSw);go_simp;try(with_reducible rfl))
  try simp only[Act.put,List.setIfInBounds_toArray,List.set_cons_zero,List.set_cons_succ]
  refine wpAnyH_take (i:=2) (v:=?_) A1 kR kR kR A2 (Or.inl ⟨rF,?_⟩) A3 ?_
  rotate_left 1
  ·(intro wS hSw;(try dsimp only at hSw);go_simp;try(with_reducible rfl))
  try simp only[Act.put,List.setIfInBounds_toArray,List.set_cons_zero,List.set_cons_succ]
  refine wpAnyH_take (i:=3) (v:=undef) A1 kR kR kR A2 (Or.inr ⟨rF,rfl⟩) A3 ?_;try simp only[Act.put,List.setIfInBounds_toArray,List.set_cons_zero,List.set_cons_succ]
  refine wpAnyH_take (i:=4) (v:=undef) A1 kR kR kR A2 (Or.inr ⟨rF,rfl⟩) A3 ?_;try simp only[Act.put,List.setIfInBounds_toArray,List.set_cons_zero,List.set_cons_succ]
  refine wpAnyH_take (i:=5) (v:=undef) A1 kR kR kR A2 (Or.inr ⟨rF,rfl⟩) A3 ?_;try simp only[Act.put,List.setIfInBounds_toArray,List.set_cons_zero,List.set_cons_succ]
  refine wpAnyH_take (i:=6) (v:=undef) A1 kR kR kR A2 (Or.inr ⟨rF,rfl⟩) A3 ?_;try simp only[Act.put,List.setIfInBounds_toArray,List.set_cons_zero,List.set_cons_succ]
  refine wpAnyH_take (i:=7) (v:=undef) A1 kR kR kR A2 (Or.inr ⟨rF,rfl⟩) A3 ?_;try simp only[Act.put,List.setIfInBounds_toArray,List.set_cons_zero,List.set_cons_succ]
  refine wpAnyH_take (i:=8) (v:=undef) A1 kR kR kR A2 (Or.inr ⟨rF,rfl⟩) A3 ?_;try simp only[Act.put,List.setIfInBounds_toArray,List.set_cons_zero,List.set_cons_succ]
  refine wpAnyH_take (i:=9) (v:=undef) A1 kR kR kR A2 (Or.inr ⟨rF,rfl⟩) A3 ?_;try simp only[Act.put,List.setIfInBounds_toArray,List.set_cons_zero,List.set_cons_succ]
  refine wpAnyH_take (i:=10) (v:=undef) A1 kR kR kR A2 (Or.inr ⟨rF,rfl⟩) A3 ?_;try simp only[Act.put,List.setIfInBounds_toArray,List.set_cons_zero,List.set_cons_succ]
  refine wpAnyH_take (i:=11) (v:=undef) A1 kR kR kR A2 (Or.inr ⟨rF,rfl⟩) A3 ?_;try simp only[Act.put,List.setIfInBounds_toArray,List.set_cons_zero,List.set_cons_succ]
  refine wpAnyH_take (i:=12) (v:=undef) A1 kR kR kR A2 (Or.inr ⟨rF,rfl⟩) A3 ?_;try simp only[Act.put,List.setIfInBounds_toArray,List.set_cons_zero,List.set_cons_succ]
  refine wpAnyH_take (i:=13) (v:=undef) A1 kR kR kR A2 (Or.inr ⟨rF,rfl⟩) A3 ?_;try simp only[Act.put,List.setIfInBounds_toArray,List.set_cons_zero,List.set_cons_succ]
  refine wpAnyH_take (i:=14) (v:=undef) A1 kR kR kR A2 (Or.inr ⟨rF,rfl⟩) A3 ?_;try simp only[Act.put,List.setIfInBounds_toArray,List.set_cons_zero,List.set_cons_succ]
  refine wpAnyH_take (i:=15) (v:=undef) A1 kR kR kR A2 (Or.inr ⟨rF,rfl⟩) A3 ?_;try simp only[Act.put,List.setIfInBounds_toArray,List.set_cons_zero,List.set_cons_succ]
  refine wpAnyH_take (i:=16) (v:=undef) A1 kR kR kR A2 (Or.inr ⟨rF,rfl⟩) A3 ?_;try simp only[Act.put,List.setIfInBounds_toArray,List.set_cons_zero,List.set_cons_succ]
  refine wpAnyH_take (i:=17) (v:=?_) A1 kR kR kR A2 (Or.inl ⟨rF,?_⟩) A3 ?_
  rotate_left 1
  ·(intro wS hSw;(try dsimp only at hSw);go_simp;try(with_reducible rfl))
  try simp only[Act.put,List.setIfInBounds_toArray,List.set_cons_zero,List.set_cons_succ]
  refine wpAnyH_take (i:=18) (v:=?_) A1 kR kR kR A2 (Or.inl ⟨rF,?_⟩) A3 ?_
  rotate_left 1
  ·(intro wS hSw;(try dsimp only at hSw);go_simp;try(with_reducible rfl))
  try simp only[Act.put,List.setIfInBounds_toArray,List.set_cons_zero,List.set_cons_succ]
  refine wpAnyH_done kR ?_ _;go_wp2;go_ret;exact⟨rfl,bel (A0 _ _) (A5 _)⟩
 have h0':(n==0)=false:=by simpa using h0
 by_cases h1:n=1
 .subst h1;obtain⟨k,hxk,hk2⟩:=CF (hp rfl);have hT:=Gd hxk hk2;subst hxk;have hr:=hcv.sign;obtain⟨p,q,rfl,hrr⟩:=hcv.sign;obtain⟨b,o,rfl,hx⟩:=hr.at hk2;have x1:=hx.at 1 rfl;have hb:=Ad x1;simp only at hb;have n2:b≠w.heap.size:=oM;have HB:=hk.signL;obtain⟨T,hT'⟩:=gA (c.sign[k].kind)
  rw[hT']at x1 hT;rw[hT];obtain⟨N,hN⟩:=gA (c.sign.length)
  rw[hN]at c1 HB hk2 f1;have f2:(w.alloc (.cells #[.int .i64 K,.int .i64 (k:Int)] 47)).cell? ⟨b,o+k*3+1,none⟩=some (.int .i64 T):=kc (A0 _ _) x1;have i1:(0:Int)<=(k:Int):=oM;have i2:(k:Int)<(N:Int):=oM;clear hp hcv hcc hr hrr hx hT hT' hN h0 hk;go_enter func80,ntmps80;go_wp2;refine rG (fun v=>v.cell? ⟨C,0,none⟩=some (.slice (some ⟨b,o,none⟩) N q)/\v.cell? ⟨b,o+k*3+1,none⟩=some (.int .i64 T)/\v.cell? ⟨w.heap.size,1,none⟩=some (.int .i64 (k:Int))) fun hJ=>?_;refine wpAnyH_take (i:=0) (v:=?_) A1 kR kR kR A2 (Or.inl ⟨rF,?_⟩) A3 ?_
  rotate_left 1
  ·(intro wS hSw;(try dsimp only at hSw);go_simp;try(with_reducible rfl))
  try simp only[Act.put,List.setIfInBounds_toArray,List.set_cons_zero,List.set_cons_succ]
  refine wpAnyH_take (i:=1) (v:=?_) A1 kR kR kR A2 (Or.inl ⟨rF,?_⟩) A3 ?_
  rotate_left 1
  ·(intro wS hSw;(try dsimp only at hSw);go_simp;try(with_reducible rfl))
  try simp only[Act.put,List.setIfInBounds_toArray,List.set_cons_zero,List.set_cons_succ]
  refine wpAnyH_take (i:=2) (v:=?_) A1 kR kR kR A2 (Or.inl ⟨rF,?_⟩) A3 ?_
  rotate_left 1
  ·(intro wS hSw;(try dsimp only at hSw);go_simp;try(with_reducible rfl))
  try simp only[Act.put,List.setIfInBounds_toArray,List.set_cons_zero,List.set_cons_succ]
  refine wpAnyH_take (i:=3) (v:=?_) A1 kR kR kR A2 (Or.inl ⟨rF,?_⟩) A3 ?_
  rotate_left 1
  ·(intro wS hSw;(try dsimp only at hSw);go_simp;try(with_reducible rfl))
  try simp only[Act.put,List.setIfInBounds_toArray,List.set_cons_zero,List.set_cons_succ]
  refine wpAnyH_take (i:=4) (v:=?_) A1 kR kR kR A2 (Or.inl ⟨rF,?_⟩) A3 ?_
  rotate_left 1
  ·(intro wS hSw;(try dsimp only at hSw);go_simp;try(with_reducible rfl))
  try simp only[Act.put,List.setIfInBounds_toArray,List.set_cons_zero,List.set_cons_succ]
  refine wpAnyH_take (i:=5) (v:=?_) A1 kR kR kR A2 (Or.inl ⟨rF,?_⟩) A3 ?_
  rotate_left 1
  ·(intro wS hSw;(try dsimp only at hSw);go_simp;try(with_reducible rfl))
  try simp only[Act.put,List.setIfInBounds_toArray,List.set_cons_zero,List.set_cons_succ]
  refine wpAnyH_take (i:=6) (v:=?_) A1 kR kR kR A2 (Or.inl ⟨rF,?_⟩) A3 ?_
  rotate_left 1
  ·(intro wS hSw;(try dsimp only at hSw);go_simp;try(with_reducible rfl))
  try simp only[Act.put,List.setIfInBounds_toArray,List.set_cons_zero,List.set_cons_succ]
  refine wpAnyH_take (i:=7) (v:=?_) A1 kR kR kR A2 (Or.inl ⟨rF,?_⟩) A3 ?_
  rotate_left 1
  ·(intro wS hSw;(try dsimp only at hSw);go_simp;try(with_reducible rfl))
  try simp only[Act.put,List.setIfInBounds_toArray,List.set_cons_zero,List.set_cons_succ]
  refine wpAnyH_take (i:=8) (v:=?_) A1 kR kR kR A2 (Or.inl ⟨rF,?_⟩) A3 ?_
  rotate_left 1
  ·(intro wS hSw;(try dsimp only at hSw);go_simp;try(with_reducible rfl))
  try simp only[Act.put,List.setIfInBounds_toArray,List.set_cons_zero,List.set_cons_succ]
  refine wpAnyH_take (i:=9) (v:=?_) A1 kR kR kR A2 (Or.inl ⟨rF,?_⟩) A3 ?_
  rotate_left 1
  ·(intro wS hSw;(try dsimp only at hSw);go_simp;try(with_reducible rfl))
  try simp only[Act.put,List.setIfInBounds_toArray,List.set_cons_zero,List.set_cons_succ]
  refine wpAnyH_take (i:=10) (v:=?_) A1 kR kR kR A2 (Or.inl ⟨rF,?_⟩) A3 ?_
  rotate_left 1
  ·(intro wS hSw;(try dsimp only at hSw);go_simp;try(with_reducible rfl))
  try simp only[Act.put,List.setIfInBounds_toArray,List.set_cons_zero,List.set_cons_succ]
  refine wpAnyH_take (i:=11) (v:=?_) A1 kR kR kR A2 (Or.inl ⟨rF,?_⟩) A3 ?_
  rotate_left 1
  ·(intro wS hSw;(try dsimp only at hSw);go_simp;try(with_reducible rfl))
  try simp only[Act.put,List.setIfInBounds_toArray,List.set_cons_zero,List.set_cons_succ]
  refine wpAnyH_take (i:=12) (v:=?_) A1 kR kR kR A2 (Or.inl ⟨rF,?_⟩) A3 ?_
  rotate_left 1
  ·(intro wS hSw;(try dsimp only at hSw);go_simp;try(with_reducible rfl))
  try simp only[Act.put,List.setIfInBounds_toArray,List.set_cons_zero,List.set_cons_succ]
  refine wpAnyH_take (i:=13) (v:=?_) A1 kR kR kR A2 (Or.inl ⟨rF,?_⟩) A3 ?_
  rotate_left 1
  ·(intro wS hSw;(try dsimp only at hSw);go_simp;try(with_reducible rfl))
  try simp only[Act.put,List.setIfInBounds_toArray,List.set_cons_zero,List.set_cons_succ]
  refine wpAnyH_take (i:=14) (v:=?_) A1 kR kR kR A2 (Or.inl ⟨rF,?_⟩) A3 ?_
  rotate_left 1
  ·(intro wS hSw;(try dsimp only at hSw);go_simp;try(with_reducible rfl))
  try simp only[Act.put,List.setIfInBounds_toArray,List.set_cons_zero,List.set_cons_succ]
  refine wpAnyH_take (i:=15) (v:=?_) A1 kR kR kR A2 (Or.inl ⟨rF,?_⟩) A3 ?_
  rotate_left 1
  ·(intro wS hSw;(try dsimp only at hSw);go_simp;try(with_reducible rfl))
  try simp only[Act.put,List.setIfInBounds_toArray,List.set_cons_zero,List.set_cons_succ]
  refine wpAnyH_take (i:=16) (v:=?_) A1 kR kR kR A2 (Or.inl ⟨rF,?_⟩) A3 ?_
  rotate_left 1
  ·(intro wS hSw;(try dsimp only at hSw);go_simp;try(with_reducible rfl))
  try simp only[Act.put,List.setIfInBounds_toArray,List.set_cons_zero,List.set_cons_succ]
  refine wpAnyH_take (i:=17) (v:=?_) A1 kR kR kR A2 (Or.inl ⟨rF,?_⟩) A3 ?_
  rotate_left 1
  ·(intro wS hSw;(try dsimp only at hSw);go_simp;try(with_reducible rfl))
  try simp only[Act.put,List.setIfInBounds_toArray,List.set_cons_zero,List.set_cons_succ]
  refine wpAnyH_take (i:=18) (v:=?_) A1 kR kR kR A2 (Or.inl ⟨rF,?_⟩) A3 ?_
  rotate_left 1
  ·(intro wS hSw;(try dsimp only at hSw);go_simp;try(with_reducible rfl))
  try simp only[Act.put,List.setIfInBounds_toArray,List.set_cons_zero,List.set_cons_succ]
  refine wpAnyH_done kR ?_ _;go_wp2;go_ret;exact⟨Aa sM,bel (A0 _ _) (A5 _)⟩
 .have h1':(n==1)=false:=by simpa using h1
  clear hp hcv hcc h0 h1;go_enter func80,ntmps80;go_wp2;refine rG (fun v=>v.cell? ⟨C,0,none⟩=some v0) fun hJ=>?_;refine wpAnyH_take (i:=0) (v:=?_) A1 kR kR kR A2 (Or.inl ⟨rF,?_⟩) A3 ?_
  rotate_left 1
  ·(intro wS hSw;(try dsimp only at hSw);go_simp;try(with_reducible rfl))
  try simp only[Act.put,List.setIfInBounds_toArray,List.set_cons_zero,List.set_cons_succ]
  refine wpAnyH_take (i:=1) (v:=?_) A1 kR kR kR A2 (Or.inl ⟨rF,?_⟩) A3 ?_
  rotate_left 1
  ·(intro wS hSw;(try dsimp only at hSw);go_simp;try(with_reducible rfl))
  try simp only[Act.put,List.setIfInBounds_toArray,List.set_cons_zero,List.set_cons_succ]
  refine wpAnyH_take (i:=2) (v:=?_) A1 kR kR kR A2 (Or.inl ⟨rF,?_⟩) A3 ?_
  rotate_left 1
  ·(intro wS hSw;(try dsimp only at hSw);go_simp;try(with_reducible rfl))
  try simp only[Act.put,List.setIfInBounds_toArray,List.set_cons_zero,List.set_cons_succ]
  refine wpAnyH_take (i:=3) (v:=?_) A1 kR kR kR A2 (Or.inl ⟨rF,?_⟩) A3 ?_
  rotate_left 1
  ·(intro wS hSw;(try dsimp only at hSw);go_simp;try(with_reducible rfl))
  try simp only[Act.put,List.setIfInBounds_toArray,List.set_cons_zero,List.set_cons_succ]
  refine wpAnyH_take (i:=4) (v:=?_) A1 kR kR kR A2 (Or.inl ⟨rF,?_⟩) A3 ?_
  rotate_left 1
  ·(intro wS hSw;(try dsimp only at hSw);go_simp;try(with_reducible rfl))
  try simp only[Act.put,List.setIfInBounds_toArray,List.set_cons_zero,List.set_cons_succ]
  refine wpAnyH_take (i:=5) (v:=?_) A1 kR kR kR A2 (Or.inl ⟨rF,?_⟩) A3 ?_
  rotate_left 1
  ·(intro wS hSw;(try dsimp only at hSw);go_simp;try(with_reducible rfl))
  try simp only[Act.put,List.setIfInBounds_toArray,List.set_cons_zero,List.set_cons_succ]
  refine wpAnyH_take (i:=6) (v:=undef) A1 kR kR kR A2 (Or.inr ⟨rF,rfl⟩) A3 ?_;try simp only[Act.put,List.setIfInBounds_toArray,List.set_cons_zero,List.set_cons_succ]
  refine wpAnyH_take (i:=7) (v:=undef) A1 kR kR kR A2 (Or.inr ⟨rF,rfl⟩) A3 ?_;try simp only[Act.put,List.setIfInBounds_toArray,List.set_cons_zero,List.set_cons_succ]
  refine wpAnyH_take (i:=8) (v:=undef) A1 kR kR kR A2 (Or.inr ⟨rF,rfl⟩) A3 ?_;try simp only[Act.put,List.setIfInBounds_toArray,List.set_cons_zero,List.set_cons_succ]
  refine wpAnyH_take (i:=9) (v:=undef) A1 kR kR kR A2 (Or.inr ⟨rF,rfl⟩) A3 ?_;try simp only[Act.put,List.setIfInBounds_toArray,List.set_cons_zero,List.set_cons_succ]
  refine wpAnyH_take (i:=10) (v:=undef) A1 kR kR kR A2 (Or.inr ⟨rF,rfl⟩) A3 ?_;try simp only[Act.put,List.setIfInBounds_toArray,List.set_cons_zero,List.set_cons_succ]
  refine wpAnyH_take (i:=11) (v:=undef) A1 kR kR kR A2 (Or.inr ⟨rF,rfl⟩) A3 ?_;try simp only[Act.put,List.setIfInBounds_toArray,List.set_cons_zero,List.set_cons_succ]
  refine wpAnyH_take (i:=12) (v:=undef) A1 kR kR kR A2 (Or.inr ⟨rF,rfl⟩) A3 ?_;try simp only[Act.put,List.setIfInBounds_toArray,List.set_cons_zero,List.set_cons_succ]
  refine wpAnyH_take (i:=13) (v:=undef) A1 kR kR kR A2 (Or.inr ⟨rF,rfl⟩) A3 ?_;try simp only[Act.put,List.setIfInBounds_toArray,List.set_cons_zero,List.set_cons_succ]
  refine wpAnyH_take (i:=14) (v:=undef) A1 kR kR kR A2 (Or.inr ⟨rF,rfl⟩) A3 ?_;try simp only[Act.put,List.setIfInBounds_toArray,List.set_cons_zero,List.set_cons_succ]
  refine wpAnyH_take (i:=15) (v:=undef) A1 kR kR kR A2 (Or.inr ⟨rF,rfl⟩) A3 ?_;try simp only[Act.put,List.setIfInBounds_toArray,List.set_cons_zero,List.set_cons_succ]
  refine wpAnyH_take (i:=16) (v:=?_) A1 kR kR kR A2 (Or.inl ⟨rF,?_⟩) A3 ?_
  rotate_left 1
  ·(intro wS hSw;(try dsimp only at hSw);go_simp;try(with_reducible rfl))
  try simp only[Act.put,List.setIfInBounds_toArray,List.set_cons_zero,List.set_cons_succ]
  refine wpAnyH_take (i:=17) (v:=?_) A1 kR kR kR A2 (Or.inl ⟨rF,?_⟩) A3 ?_
  rotate_left 1
  ·(intro wS hSw;(try dsimp only at hSw);go_simp;try(with_reducible rfl))
  try simp only[Act.put,List.setIfInBounds_toArray,List.set_cons_zero,List.set_cons_succ]
  refine wpAnyH_take (i:=18) (v:=?_) A1 kR kR kR A2 (Or.inl ⟨rF,?_⟩) A3 ?_
  rotate_left 1
  ·(intro wS hSw;(try dsimp only at hSw);go_simp;try(with_reducible rfl))
  try simp only[Act.put,List.setIfInBounds_toArray,List.set_cons_zero,List.set_cons_succ]
  refine wpAnyH_done kR ?_ _;go_wp2;go_ret;exact⟨Aa (by simp[h0',h1']),bel (A0 _ _) (A5 _)⟩
theorem E6(C:Nat)(v0 v1 v2 v3:Value)(c:Cd)(hk:AX c)(n:Int)(m:Ty)(w:World)(hc:As w C v0 v1 v2 v3 c):
 Calls prog 80 #[.pointer (some ⟨C,0,none⟩),.int .i64 n,.int .i64 10,Ck m] w fun e w'=>e=.returned (.bool (Ao n c.slots.length&&decide (Cf c.slots n=m)))/\Below w.heap.size w w':=by
 obtain⟨hcc,hcv⟩:=hc;have c1:=hcc.at 2 rfl;rw[Nat.zero_add]at c1;have hC:=Ad c1;simp only at hC;have n1:C≠w.heap.size:=oM;have HB:=hk.slotsL;have K1:=AS n c.slots.length;have hr:=hcv.slots;obtain⟨p,q,rfl,hrr⟩:=hcv.slots;obtain⟨X,hX⟩:=gA (Ao n c.slots.length)
 simp only[hX]at K1;rw[hX];obtain⟨K,P⟩:=m;unfold Ck;simp only;cases X
 .clear hr hrr hcc hcv;obtain⟨N,hN⟩:=gA (c.slots.length)
  rw[hN]at K1 c1 HB;have HK:Hid (∀w,Calls prog 76 #[.int .i64 n,.int .i64 N] w fun e w'=>e=.returned (.bool false)/\w'=w):=K1;clear hN K1 hX hk;have f1:(w.alloc (.cells #[.int .i64 K,.int .i64 P] 47)).cell? ⟨C,2,none⟩=some (.slice p N q):=kc (A0 _ _) c1;go_enter func80,ntmps80;go_wp2;refine rG (fun v=>v.cell? ⟨C,2,none⟩=some (.slice p N q)) fun hJ=>?_;exact I6
 .obtain⟨k,hnk,hkl⟩:=CF hX;rw[FX hnk hkl];obtain⟨b,o,hp,hx⟩:=hr.at hkl;subst hp;subst hnk;have x0:=hx.at 0 rfl;have x1:=hx.at 1 rfl;rw[Nat.add_zero]at x0;have hbl:=Ad x0;simp only at hbl;have n2:b≠w.heap.size:=oM;obtain⟨T,hT⟩:=gA (c.slots[k].ty)
  rw[hT]at x0 x1 |-;obtain⟨D,E⟩:=T;simp only at x0 x1;rw[G2];obtain⟨N,hN⟩:=gA (c.slots.length)
  rw[hN]at K1 c1 HB hkl;have HK:Hid (∀w,Calls prog 76 #[.int .i64 (k:Int),.int .i64 N] w fun e w'=>e=.returned (.bool true)/\w'=w):=K1;have f1:(w.alloc (.cells #[.int .i64 K,.int .i64 P] 47)).cell? ⟨C,2,none⟩=some (.slice (some ⟨b,o,none⟩) N q):=kc (A0 _ _) c1;have f2:(w.alloc (.cells #[.int .i64 K,.int .i64 P] 47)).cell? ⟨b,o+k*5,none⟩=some (.int .i64 D):=kc (A0 _ _) x0;have f3:(w.alloc (.cells #[.int .i64 K,.int .i64 P] 47)).cell? ⟨b,o+k*5+1,none⟩=some (.int .i64 E):=kc (A0 _ _) x1;have i1:(0:Int)<=(k:Int):=oM;have i2:(k:Int)<(N:Int):=oM;clear hN K1 hX hr hrr hcc hcv hx hT hk;cases hl:(D==K)<;>cases hq:(E==P)
  all_goals
   go_enter func80,ntmps80;go_wp2;refine rG (fun v=>v.cell? ⟨C,2,none⟩=some (.slice (some ⟨b,o,none⟩) N q)/\v.cell? ⟨b,o+k*5,none⟩=some (.int .i64 D)/\v.cell? ⟨b,o+k*5+1,none⟩=some (.int .i64 E)/\v.cell? ⟨w.heap.size,0,none⟩=some (.int .i64 K)/\v.cell? ⟨w.heap.size,1,none⟩=some (.int .i64 P)) fun hJ=>?_;refine wpAnyH_take (i:=0) (v:=?_) A1 kR kR kR A2 (Or.inl ⟨rF,?_⟩) A3 ?_
   rotate_left 1
   ·(intro wS hSw;(try dsimp only at hSw);go_simp;try(with_reducible rfl))
   try simp only[Act.put,List.setIfInBounds_toArray,List.set_cons_zero,List.set_cons_succ]
   refine wpAnyH_take (i:=1) (v:=?_) A1 kR kR kR A2 (Or.inl ⟨rF,?_⟩) A3 ?_
   rotate_left 1
   ·(intro wS hSw;(try dsimp only at hSw);go_simp;try(with_reducible rfl))
   try simp only[Act.put,List.setIfInBounds_toArray,List.set_cons_zero,List.set_cons_succ]
   refine wpAnyH_take (i:=2) (v:=?_) A1 kR kR kR A2 (Or.inl ⟨rF,?_⟩) A3 ?_
   rotate_left 1
   ·(intro wS hSw;(try dsimp only at hSw);go_simp;try(with_reducible rfl))
   try simp only[Act.put,List.setIfInBounds_toArray,List.set_cons_zero,List.set_cons_succ]
   refine wpAnyH_take (i:=3) (v:=?_) A1 kR kR kR A2 (Or.inl ⟨rF,?_⟩) A3 ?_
   rotate_left 1
   ·(intro wS hSw;(try dsimp only at hSw);go_simp;try(with_reducible rfl))
   try simp only[Act.put,List.setIfInBounds_toArray,List.set_cons_zero,List.set_cons_succ]
   refine wpAnyH_take (i:=4) (v:=?_) A1 kR kR kR A2 (Or.inl ⟨rF,?_⟩) A3 ?_
   rotate_left 1
   ·(intro wS hSw;(try dsimp only at hSw);go_simp;try(with_reducible rfl))
   try simp only[Act.put,List.setIfInBounds_toArray,List.set_cons_zero,List.set_cons_succ]
   refine wpAnyH_take (i:=5) (v:=?_) A1 kR kR kR A2 (Or.inl ⟨rF,?_⟩) A3 ?_
   rotate_left 1
   ·(intro wS hSw;(try dsimp only at hSw);go_simp;try(with_reducible rfl))
   try simp only[Act.put,List.setIfInBounds_toArray,List.set_cons_zero,List.set_cons_succ]
   clear hJ;refine B5 6 fun K hK=>?_;go_simp;(go_at_call 76;refine(HK.out _).mono ?_;rintro e w1 ⟨rfl,rfl⟩);try(go_wp2_with fail)
   refine B3 hK fun hJ=>?_;clear hK K;refine wpAnyH_take (i:=7) (v:=?_) A1 kR kR kR A2 (Or.inl ⟨rF,?_⟩) A3 ?_
   rotate_left 1
   ·(intro wS hSw;(try dsimp only at hSw);go_simp;try(with_reducible rfl))
   try simp only[Act.put,List.setIfInBounds_toArray,List.set_cons_zero,List.set_cons_succ]
   refine wpAnyH_take (i:=8) (v:=?_) A1 kR kR kR A2 (Or.inl ⟨rF,?_⟩) A3 ?_
   rotate_left 1
   ·(intro wS hSw;(try dsimp only at hSw);go_simp;try(with_reducible rfl))
   try simp only[Act.put,List.setIfInBounds_toArray,List.set_cons_zero,List.set_cons_succ]
   refine wpAnyH_take (i:=9) (v:=?_) A1 kR kR kR A2 (Or.inl ⟨rF,?_⟩) A3 ?_
   rotate_left 1
   ·(intro wS hSw;(try dsimp only at hSw);go_simp;try(with_reducible rfl))
   try simp only[Act.put,List.setIfInBounds_toArray,List.set_cons_zero,List.set_cons_succ]
   refine wpAnyH_take (i:=10) (v:=?_) A1 kR kR kR A2 (Or.inl ⟨rF,?_⟩) A3 ?_
   rotate_left 1
   ·(intro wS hSw;(try dsimp only at hSw);go_simp;try(with_reducible rfl))
   try simp only[Act.put,List.setIfInBounds_toArray,List.set_cons_zero,List.set_cons_succ]
   refine wpAnyH_take (i:=11) (v:=?_) A1 kR kR kR A2 (Or.inl ⟨rF,?_⟩) A3 ?_
   rotate_left 1
   ·(intro wS hSw;(try dsimp only at hSw);go_simp;try(with_reducible rfl))
   try simp only[Act.put,List.setIfInBounds_toArray,List.set_cons_zero,List.set_cons_succ]
   refine wpAnyH_take (i:=12) (v:=?_) A1 kR kR kR A2 (Or.inl ⟨rF,?_⟩) A3 ?_
   rotate_left 1
   ·(intro wS hSw;(try dsimp only at hSw);go_simp;try(with_reducible rfl))
   try simp only[Act.put,List.setIfInBounds_toArray,List.set_cons_zero,List.set_cons_succ]
   refine wpAnyH_take (i:=13) (v:=?_) A1 kR kR kR A2 (Or.inl ⟨rF,?_⟩) A3 ?_
   rotate_left 1
   ·(intro wS hSw;(try dsimp only at hSw);go_simp;try(with_reducible rfl))
   try simp only[Act.put,List.setIfInBounds_toArray,List.set_cons_zero,List.set_cons_succ]
   refine wpAnyH_take (i:=14) (v:=?_) A1 kR kR kR A2 (Or.inl ⟨rF,?_⟩) A3 ?_
   rotate_left 1
   ·(intro wS hSw;(try dsimp only at hSw);go_simp;try(with_reducible rfl))
   try simp only[Act.put,List.setIfInBounds_toArray,List.set_cons_zero,List.set_cons_succ]
   refine wpAnyH_take (i:=15) (v:=?_) A1 kR kR kR A2 (Or.inl ⟨rF,?_⟩) A3 ?_
   rotate_left 1
   ·(intro wS hSw;(try dsimp only at hSw);go_simp;try(with_reducible rfl))
   try simp only[Act.put,List.setIfInBounds_toArray,List.set_cons_zero,List.set_cons_succ]
   refine wpAnyH_take (i:=16) (v:=?_) A1 kR kR kR A2 (Or.inl ⟨rF,?_⟩) A3 ?_
   rotate_left 1
   ·(intro wS hSw;(try dsimp only at hSw);go_simp;try(with_reducible rfl))
   try simp only[Act.put,List.setIfInBounds_toArray,List.set_cons_zero,List.set_cons_succ]
   refine wpAnyH_take (i:=17) (v:=?_) A1 kR kR kR A2 (Or.inl ⟨rF,?_⟩) A3 ?_
   rotate_left 1
   ·(intro wS hSw;(try dsimp only at hSw);go_simp;try(with_reducible rfl))
   try simp only[Act.put,List.setIfInBounds_toArray,List.set_cons_zero,List.set_cons_succ]
   refine wpAnyH_take (i:=18) (v:=?_) A1 kR kR kR A2 (Or.inl ⟨rF,?_⟩) A3 ?_
   rotate_left 1
   ·(intro wS hSw;(try dsimp only at hSw);go_simp;try(with_reducible rfl))
   try simp only[Act.put,List.setIfInBounds_toArray,List.set_cons_zero,List.set_cons_succ]
   refine wpAnyH_take (i:=19) (v:=?_) A1 kR kR kR A2 (Or.inl ⟨rF,?_⟩) A3 ?_
   rotate_left 1
   ·(intro wS hSw;(try dsimp only at hSw);go_simp;try(with_reducible rfl))
   try simp only[Act.put,List.setIfInBounds_toArray,List.set_cons_zero,List.set_cons_succ]
   refine wpAnyH_done kR ?_ _;go_wp2;go_ret;exact⟨Aa (by simp[hl,hq]),bel (A0 _ _) (A5 _)⟩
theorem EJ(C:Nat)(v0 v1 v2 v3:Value)(c:Cd)(hk:AX c)(n l:Int)(m:Ty)(w:World)(hc:As w C v0 v1 v2 v3 c)(hp:l=9->Ao m.par c.sign.length=true):
 Calls prog 80 #[.pointer (some ⟨C,0,none⟩),.int .i64 n,.int .i64 l,Ck m] w fun e w'=>e=.returned (.bool (Cx c n l m))/\Below w.heap.size w w':=by
 unfold Cx;by_cases h8:l=8
 .subst h8;rw[if_pos rfl];have HK:Hid (∀w,Calls prog 77 #[.int .i64 n] w fun e w'=>e=.returned (.bool (BL n))/\w'=w):=Cc n;unfold Ck;clear hp hc;go_enter func80,ntmps80;go_wp2_with(go_at_call 77;refine(HK.out _).mono ?_;rintro e w1 ⟨rfl,rfl⟩);go_ret;exact⟨rfl,A0 _ _⟩
 rw[if_neg h8];by_cases h9:l=9
 .subst h9;rw[if_pos rfl];exact E5 C v0 v1 v2 v3 c hk n m w hc fun _=>hp rfl
 rw[if_neg h9];by_cases h10:l=10
 .subst h10;rw[if_pos rfl];exact E6 C v0 v1 v2 v3 c hk n m w hc
 rw[if_neg h10];have h8':(l==8)=false:=by simpa using h8
 have h9':(l==9)=false:=by simpa using h9
 have h10':(l==10)=false:=by simpa using h10
 clear h8 h9 h10 hp;by_cases h11:l=11
 .subst h11;rw[if_pos rfl];have K1:=AS n c.sign.length;have HB:=hk.signL;obtain⟨hcc,hcv⟩:=hc;have c1:=hcc.at 0 rfl;rw[Nat.zero_add]at c1;have hC:=Ad c1;simp only at hC;have n1:C≠w.heap.size:=oM;obtain⟨p,q,rfl,hrr⟩:=hcv.sign;obtain⟨X,hX⟩:=gA (Ao n c.sign.length)
  simp only[hX]at K1;rw[hX];obtain⟨N,hN⟩:=gA (c.sign.length)
  rw[hN]at K1 c1 HB;have HK:Hid (∀w,Calls prog 76 #[.int .i64 n,.int .i64 N] w fun e w'=>e=.returned (.bool X)/\w'=w):=K1;clear hN K1 hX hrr hcc hcv hk h8' h9' h10';unfold Ck;go_enter func80,ntmps80;exact Ig
 rw[if_neg h11];have h11':(l==11)=false:=by simpa using h11
 clear h11 hc;unfold Ck;go_enter func80,ntmps80;go_wp2;go_ret;exact⟨rfl,A0 _ _⟩
theorem Dl(C:Nat)(v0 v1 v2 v3:Value)(c:Cd)(hk:AX c)(b o:Nat)(i:Au)(l:Int)(m:Ty)(w:World)(hc:As w C v0 v1 v2 v3 c)(hi:A8 w b o (B9 i))(h0:0<=i.bits)(h1:i.bits<4294967296)(hp:l=9->Ao m.par c.sign.length=true):
 Calls prog 64 #[.pointer (some ⟨C,0,none⟩),.pointer (some ⟨b,o,none⟩),.int .i64 l,Ck m] w fun e w'=>e=.returned (.bool (AG c i l m))/\Below w.heap.size w w':=by
 have e5:=hi.at 5 rfl;have e6:=hi.at 6 rfl;have hb:=Ad e5;simp only at hb;have n1:b≠w.heap.size:=oM;have K1:=Cz i.bits h0 h1;have K2:=fun w h=>EJ C v0 v1 v2 v3 c hk i.n l m w h hp;unfold AG;obtain⟨X,hX⟩:=gA (Ch i.bits)
 obtain⟨Y,hY⟩:=gA (Cx c i.n l m)
 simp only[hX]at K1 |-;simp only[hY]at K2 |-;obtain⟨bt,hbt⟩:∃x,i.bits=x:=⟨_,rfl⟩
 obtain⟨n,hn⟩:∃x,i.n=x:=⟨_,rfl⟩
 rw[hbt]at e6 K1 |-;rw[hn]at e5 K2 |-;have HK:Hid (∀w,Calls prog 78 #[.int .u32 bt] w fun e w'=>e=.returned (.bool X)/\w'=w):=K1;obtain⟨K,P⟩:=m;unfold Ck at K2 |-;simp only at K2 |-;have HN:Hid (∀w,As w C v0 v1 v2 v3 c->Calls prog 80 #[.pointer (some ⟨C,0,none⟩),.int .i64 n,.int .i64 l,.agg #[.int .i64 K,.int .i64 P]] w fun e w'=>e=.returned (.bool Y)/\Below w.heap.size w w'):=K2;have f5:(w.alloc (.cells #[.int .i64 K,.int .i64 P] 47)).cell? ⟨b,o+5,none⟩=some (.int .i64 n):=kc (A0 _ _) e5;have f6:(w.alloc (.cells #[.int .i64 K,.int .i64 P] 47)).cell? ⟨b,o+6,none⟩=some (.int .u32 bt):=kc (A0 _ _) e6;have HC0:Hid (As w C v0 v1 v2 v3 c):=hc;clear K1 K2 hX hY hbt hn hi hp h0 h1 hk hc;by_cases h7:l=7
 .subst h7;rw[if_pos rfl];clear HN;cases hz:(n==0)
  all_goals
   go_enter func64,ntmps64;go_wp2_with(go_at_call 78;refine(HK.out _).mono ?_;rintro e w1 ⟨rfl,rfl⟩);go_ret;exact⟨Aa (by simp[hz]),A0 _ _⟩
 rw[if_neg h7];have h7':(l==7)=false:=by simpa using h7
 clear h7 HK;cases hz:(bt==0)
 .go_enter func64,ntmps64;go_wp2;refine rG (fun v=>v.cell? ⟨b,o+5,none⟩=some (.int .i64 n)/\v.cell? ⟨b,o+6,none⟩=some (.int .u32 bt)) fun hJ=>?_;refine wpAnyH_take (i:=0) (v:=?_) A1 kR kR kR A2 (Or.inl ⟨rF,?_⟩) A3 ?_
  rotate_left 1
  ·(intro wS hSw;(try dsimp only at hSw);go_simp;try(with_reducible rfl))
  try simp only[Act.put,List.setIfInBounds_toArray,List.set_cons_zero,List.set_cons_succ]
  refine wpAnyH_take (i:=1) (v:=?_) A1 kR kR kR A2 (Or.inl ⟨rF,?_⟩) A3 ?_
  rotate_left 1
  ·(intro wS hSw;(try dsimp only at hSw);go_simp;try(with_reducible rfl))
  try simp only[Act.put,List.setIfInBounds_toArray,List.set_cons_zero,List.set_cons_succ]
  refine wpAnyH_take (i:=2) (v:=?_) A1 kR kR kR A2 (Or.inl ⟨rF,?_⟩) A3 ?_
  rotate_left 1
  ·(intro wS hSw;(try dsimp only at hSw);go_simp;try(with_reducible rfl))
  try simp only[Act.put,List.setIfInBounds_toArray,List.set_cons_zero,List.set_cons_succ]
  refine wpAnyH_take (i:=3) (v:=?_) A1 kR kR kR A2 (Or.inl ⟨rF,?_⟩) A3 ?_
  rotate_left 1
  ·(intro wS hSw;(try dsimp only at hSw);go_simp;try(with_reducible rfl))
  try simp only[Act.put,List.setIfInBounds_toArray,List.set_cons_zero,List.set_cons_succ]
  refine wpAnyH_take (i:=4) (v:=?_) A1 kR kR kR A2 (Or.inl ⟨rF,?_⟩) A3 ?_
  rotate_left 1
  ·(intro wS hSw;(try dsimp only at hSw);go_simp;try(with_reducible rfl))
  try simp only[Act.put,List.setIfInBounds_toArray,List.set_cons_zero,List.set_cons_succ]
  refine wpAnyH_take (i:=5) (v:=?_) A1 kR kR kR A2 (Or.inl ⟨rF,?_⟩) A3 ?_
  rotate_left 1
  ·(intro wS hSw;(try dsimp only at hSw);go_simp;try(with_reducible rfl))
  try simp only[Act.put,List.setIfInBounds_toArray,List.set_cons_zero,List.set_cons_succ]
  refine wpAnyH_take (i:=6) (v:=undef) A1 kR kR kR A2 (Or.inr ⟨rF,rfl⟩) A3 ?_;try simp only[Act.put,List.setIfInBounds_toArray,List.set_cons_zero,List.set_cons_succ]
  refine wpAnyH_take (i:=7) (v:=undef) A1 kR kR kR A2 (Or.inr ⟨rF,rfl⟩) A3 ?_;try simp only[Act.put,List.setIfInBounds_toArray,List.set_cons_zero,List.set_cons_succ]
  refine wpAnyH_take (i:=8) (v:=undef) A1 kR kR kR A2 (Or.inr ⟨rF,rfl⟩) A3 ?_;try simp only[Act.put,List.setIfInBounds_toArray,List.set_cons_zero,List.set_cons_succ]
  refine wpAnyH_take (i:=9) (v:=undef) A1 kR kR kR A2 (Or.inr ⟨rF,rfl⟩) A3 ?_;try simp only[Act.put,List.setIfInBounds_toArray,List.set_cons_zero,List.set_cons_succ]
  refine wpAnyH_take (i:=10) (v:=undef) A1 kR kR kR A2 (Or.inr ⟨rF,rfl⟩) A3 ?_;try simp only[Act.put,List.setIfInBounds_toArray,List.set_cons_zero,List.set_cons_succ]
  refine wpAnyH_take (i:=11) (v:=undef) A1 kR kR kR A2 (Or.inr ⟨rF,rfl⟩) A3 ?_;try simp only[Act.put,List.setIfInBounds_toArray,List.set_cons_zero,List.set_cons_succ]
  refine wpAnyH_take (i:=12) (v:=undef) A1 kR kR kR A2 (Or.inr ⟨rF,rfl⟩) A3 ?_;try simp only[Act.put,List.setIfInBounds_toArray,List.set_cons_zero,List.set_cons_succ]
  refine wpAnyH_take (i:=13) (v:=undef) A1 kR kR kR A2 (Or.inr ⟨rF,rfl⟩) A3 ?_;try simp only[Act.put,List.setIfInBounds_toArray,List.set_cons_zero,List.set_cons_succ]
  refine wpAnyH_take (i:=14) (v:=?_) A1 kR kR kR A2 (Or.inl ⟨rF,?_⟩) A3 ?_
  rotate_left 1
  ·(intro wS hSw;(try dsimp only at hSw);go_simp;try(with_reducible rfl))
  try simp only[Act.put,List.setIfInBounds_toArray,List.set_cons_zero,List.set_cons_succ]
  refine wpAnyH_take (i:=15) (v:=?_) A1 kR kR kR A2 (Or.inl ⟨rF,?_⟩) A3 ?_
  rotate_left 1
  ·(intro wS hSw;(try dsimp only at hSw);go_simp;try(with_reducible rfl))
  try simp only[Act.put,List.setIfInBounds_toArray,List.set_cons_zero,List.set_cons_succ]
  refine wpAnyH_done kR ?_ _;go_wp2;go_ret;exact⟨Aa (by simp[hz]),bel (A0 _ _) (A5 _)⟩
 .go_enter func64,ntmps64;go_wp2;have HC:Hid (∀v,Below (w.alloc (.cells #[.int .i64 K,.int .i64 P] 47)).heap.size (w.alloc (.cells #[.int .i64 K,.int .i64 P] 47)) v->v.cell? ⟨b,o+5,none⟩=some (.int .i64 n)/\v.cell? ⟨b,o+6,none⟩=some (.int .u32 bt)/\v.cell? ⟨w.heap.size,0,none⟩=some (.int .i64 K)/\v.cell? ⟨w.heap.size,1,none⟩=some (.int .i64 P)):=
   fun v hv=>⟨kc hv f5,kc hv f6,kc hv sG,kc hv sG⟩
  refine rG (fun v=>v.cell? ⟨b,o+5,none⟩=some (.int .i64 n)/\v.cell? ⟨b,o+6,none⟩=some (.int .u32 bt)/\v.cell? ⟨w.heap.size,0,none⟩=some (.int .i64 K)/\v.cell? ⟨w.heap.size,1,none⟩=some (.int .i64 P)) fun hJ=>?_;refine wpAnyH_take (i:=0) (v:=?_) A1 kR kR kR A2 (Or.inl ⟨rF,?_⟩) A3 ?_
  rotate_left 1
  ·(intro wS hSw;(try dsimp only at hSw);go_simp;try(with_reducible rfl))
  try simp only[Act.put,List.setIfInBounds_toArray,List.set_cons_zero,List.set_cons_succ]
  refine wpAnyH_take (i:=1) (v:=?_) A1 kR kR kR A2 (Or.inl ⟨rF,?_⟩) A3 ?_
  rotate_left 1
  ·(intro wS hSw;(try dsimp only at hSw);go_simp;try(with_reducible rfl))
  try simp only[Act.put,List.setIfInBounds_toArray,List.set_cons_zero,List.set_cons_succ]
  refine wpAnyH_take (i:=2) (v:=?_) A1 kR kR kR A2 (Or.inl ⟨rF,?_⟩) A3 ?_
  rotate_left 1
  ·(intro wS hSw;(try dsimp only at hSw);go_simp;try(with_reducible rfl))
  try simp only[Act.put,List.setIfInBounds_toArray,List.set_cons_zero,List.set_cons_succ]
  refine wpAnyH_take (i:=3) (v:=?_) A1 kR kR kR A2 (Or.inl ⟨rF,?_⟩) A3 ?_
  rotate_left 1
  ·(intro wS hSw;(try dsimp only at hSw);go_simp;try(with_reducible rfl))
  try simp only[Act.put,List.setIfInBounds_toArray,List.set_cons_zero,List.set_cons_succ]
  refine wpAnyH_take (i:=4) (v:=?_) A1 kR kR kR A2 (Or.inl ⟨rF,?_⟩) A3 ?_
  rotate_left 1
  ·(intro wS hSw;(try dsimp only at hSw);go_simp;try(with_reducible rfl))
  try simp only[Act.put,List.setIfInBounds_toArray,List.set_cons_zero,List.set_cons_succ]
  refine wpAnyH_take (i:=5) (v:=?_) A1 kR kR kR A2 (Or.inl ⟨rF,?_⟩) A3 ?_
  rotate_left 1
  ·(intro wS hSw;(try dsimp only at hSw);go_simp;try(with_reducible rfl))
  try simp only[Act.put,List.setIfInBounds_toArray,List.set_cons_zero,List.set_cons_succ]
  refine wpAnyH_take (i:=6) (v:=?_) A1 kR kR kR A2 (Or.inl ⟨rF,?_⟩) A3 ?_
  rotate_left 1
  ·(intro wS hSw;(try dsimp only at hSw);go_simp;try(with_reducible rfl))
  try simp only[Act.put,List.setIfInBounds_toArray,List.set_cons_zero,List.set_cons_succ]
  refine wpAnyH_take (i:=7) (v:=?_) A1 kR kR kR A2 (Or.inl ⟨rF,?_⟩) A3 ?_
  rotate_left 1
  ·(intro wS hSw;(try dsimp only at hSw);go_simp;try(with_reducible rfl))
  try simp only[Act.put,List.setIfInBounds_toArray,List.set_cons_zero,List.set_cons_succ]
  refine wpAnyH_take (i:=8) (v:=?_) A1 kR kR kR A2 (Or.inl ⟨rF,?_⟩) A3 ?_
  rotate_left 1
  ·(intro wS hSw;(try dsimp only at hSw);go_simp;try(with_reducible rfl))
  try simp only[Act.put,List.setIfInBounds_toArray,List.set_cons_zero,List.set_cons_succ]
  refine wpAnyH_take (i:=9) (v:=?_) A1 kR kR kR A2 (Or.inl ⟨rF,?_⟩) A3 ?_
  rotate_left 1
  ·(intro wS hSw;(try dsimp only at hSw);go_simp;try(with_reducible rfl))
  try simp only[Act.put,List.setIfInBounds_toArray,List.set_cons_zero,List.set_cons_succ]
  refine wpAnyH_take (i:=10) (v:=?_) A1 kR kR kR A2 (Or.inl ⟨rF,?_⟩) A3 ?_
  rotate_left 1
  ·(intro wS hSw;(try dsimp only at hSw);go_simp;try(with_reducible rfl))
  try simp only[Act.put,List.setIfInBounds_toArray,List.set_cons_zero,List.set_cons_succ]
  refine wpAnyH_take (i:=11) (v:=?_) A1 kR kR kR A2 (Or.inl ⟨rF,?_⟩) A3 ?_
  rotate_left 1
  ·(intro wS hSw;(try dsimp only at hSw);go_simp;try(with_reducible rfl))
  try simp only[Act.put,List.setIfInBounds_toArray,List.set_cons_zero,List.set_cons_succ]
  refine wpAnyH_take (i:=12) (v:=?_) A1 kR kR kR A2 (Or.inl ⟨rF,?_⟩) A3 ?_
  rotate_left 1
  ·(intro wS hSw;(try dsimp only at hSw);go_simp;try(with_reducible rfl))
  try simp only[Act.put,List.setIfInBounds_toArray,List.set_cons_zero,List.set_cons_succ]
  clear hJ;refine B5 13 fun K hK=>?_;go_simp;(go_at_call 80;refine(HN.out _ ((HC0.below (A0 _ _)).below (A5 _))).mono ?_;rintro e w1 ⟨rfl,hb1⟩;have HB1:=bel (A5 _) hb1;obtain⟨y0,y1,y2,y3⟩:=HC.out w1 HB1);try(go_wp2_with fail)
  refine B3 hK fun hJ=>?_;clear hK K;refine wpAnyH_take (i:=14) (v:=?_) A1 kR kR kR A2 (Or.inl ⟨rF,?_⟩) A3 ?_
  rotate_left 1
  ·(intro wS hSw;(try dsimp only at hSw);go_simp;try(with_reducible rfl))
  try simp only[Act.put,List.setIfInBounds_toArray,List.set_cons_zero,List.set_cons_succ]
  refine wpAnyH_take (i:=15) (v:=?_) A1 kR kR kR A2 (Or.inl ⟨rF,?_⟩) A3 ?_
  rotate_left 1
  ·(intro wS hSw;(try dsimp only at hSw);go_simp;try(with_reducible rfl))
  try simp only[Act.put,List.setIfInBounds_toArray,List.set_cons_zero,List.set_cons_succ]
  refine wpAnyH_done kR ?_ _;go_wp2;go_ret;exact⟨Aa (by simp[hz]),bel (A0 _ _) HB1⟩
theorem Bp(b o:Nat)(i:Au)(w:World)(hi:A8 w b o (B9 i)):
 Calls prog 62 #[.pointer (some ⟨b,o,none⟩)] w fun e w'=>e=.returned (.agg #[.int .i64 i.d,.int .i64 i.a,.int .i64 i.b,.int .i64 i.c])/\Below w.heap.size w w':=by
 have e1:=hi.at 1 rfl;have e2:=hi.at 2 rfl;have e3:=hi.at 3 rfl;have e4:=hi.at 4 rfl;have hb:=Ad e1;simp only at hb;have n1:b≠w.heap.size:=oM;have f1:(w.alloc (.cells #[.int .i64 0,.int .i64 0,.int .i64 0,.int .i64 0] 109)).cell? ⟨b,o+1,none⟩=some (.int .i64 i.d):=kc (A0 w _) e1;have f2:(w.alloc (.cells #[.int .i64 0,.int .i64 0,.int .i64 0,.int .i64 0] 109)).cell? ⟨b,o+2,none⟩=some (.int .i64 i.a):=kc (A0 w _) e2;have f3:(w.alloc (.cells #[.int .i64 0,.int .i64 0,.int .i64 0,.int .i64 0] 109)).cell? ⟨b,o+3,none⟩=some (.int .i64 i.b):=kc (A0 w _) e3;have f4:(w.alloc (.cells #[.int .i64 0,.int .i64 0,.int .i64 0,.int .i64 0] 109)).cell? ⟨b,o+4,none⟩=some (.int .i64 i.c):=kc (A0 w _) e4;clear hi;go_enter func62,ntmps62;go_wp2;refine rG (fun v=>v.cell? ⟨b,o+1,none⟩=some (.int .i64 i.d)/\v.cell? ⟨b,o+2,none⟩=some (.int .i64 i.a)/\v.cell? ⟨b,o+3,none⟩=some (.int .i64 i.b)/\v.cell? ⟨b,o+4,none⟩=some (.int .i64 i.c)) fun hJ=>?_;refine wpAnyH_take (i:=0) (v:=?_) A1 kR kR kR A2 (Or.inl ⟨rF,?_⟩) A3 ?_
 rotate_left 1
 ·(intro wS hSw;(try dsimp only at hSw);go_simp;try(with_reducible rfl))
 try simp only[Act.put,List.setIfInBounds_toArray,List.set_cons_zero,List.set_cons_succ]
 refine wpAnyH_take (i:=1) (v:=?_) A1 kR kR kR A2 (Or.inl ⟨rF,?_⟩) A3 ?_
 rotate_left 1
 ·(intro wS hSw;(try dsimp only at hSw);go_simp;try(with_reducible rfl))
 try simp only[Act.put,List.setIfInBounds_toArray,List.set_cons_zero,List.set_cons_succ]
 refine wpAnyH_take (i:=2) (v:=?_) A1 kR kR kR A2 (Or.inl ⟨rF,?_⟩) A3 ?_
 rotate_left 1
 ·(intro wS hSw;(try dsimp only at hSw);go_simp;try(with_reducible rfl))
 try simp only[Act.put,List.setIfInBounds_toArray,List.set_cons_zero,List.set_cons_succ]
 refine wpAnyH_take (i:=3) (v:=?_) A1 kR kR kR A2 (Or.inl ⟨rF,?_⟩) A3 ?_
 rotate_left 1
 ·(intro wS hSw;(try dsimp only at hSw);go_simp;try(with_reducible rfl))
 try simp only[Act.put,List.setIfInBounds_toArray,List.set_cons_zero,List.set_cons_succ]
 refine wpAnyH_take (i:=4) (v:=?_) A1 kR kR kR A2 (Or.inl ⟨rF,?_⟩) A3 ?_
 rotate_left 1
 ·(intro wS hSw;(try dsimp only at hSw);go_simp;try(with_reducible rfl))
 try simp only[Act.put,List.setIfInBounds_toArray,List.set_cons_zero,List.set_cons_succ]
 refine wpAnyH_take (i:=5) (v:=?_) A1 kR kR kR A2 (Or.inl ⟨rF,?_⟩) A3 ?_
 rotate_left 1
 ·(intro wS hSw;(try dsimp only at hSw);go_simp;try(with_reducible rfl))
 try simp only[Act.put,List.setIfInBounds_toArray,List.set_cons_zero,List.set_cons_succ]
 refine wpAnyH_take (i:=6) (v:=?_) A1 kR kR kR A2 (Or.inl ⟨rF,?_⟩) A3 ?_
 rotate_left 1
 ·(intro wS hSw;(try dsimp only at hSw);go_simp;try(with_reducible rfl))
 try simp only[Act.put,List.setIfInBounds_toArray,List.set_cons_zero,List.set_cons_succ]
 refine wpAnyH_take (i:=7) (v:=?_) A1 kR kR kR A2 (Or.inl ⟨rF,?_⟩) A3 ?_
 rotate_left 1
 ·(intro wS hSw;(try dsimp only at hSw);go_simp;try(with_reducible rfl))
 try simp only[Act.put,List.setIfInBounds_toArray,List.set_cons_zero,List.set_cons_succ]
 refine wpAnyH_take (i:=8) (v:=?_) A1 kR kR kR A2 (Or.inl ⟨rF,?_⟩) A3 ?_
 rotate_left 1
 ·(intro wS hSw;(try dsimp only at hSw);go_simp;try(with_reducible rfl))
 try simp only[Act.put,List.setIfInBounds_toArray,List.set_cons_zero,List.set_cons_succ]
 refine wpAnyH_take (i:=9) (v:=?_) A1 kR kR kR A2 (Or.inl ⟨rF,?_⟩) A3 ?_
 rotate_left 1
 ·(intro wS hSw;(try dsimp only at hSw);go_simp;try(with_reducible rfl))
 try simp only[Act.put,List.setIfInBounds_toArray,List.set_cons_zero,List.set_cons_succ]
 refine wpAnyH_take (i:=10) (v:=?_) A1 kR kR kR A2 (Or.inl ⟨rF,?_⟩) A3 ?_
 rotate_left 1
 ·(intro wS hSw;(try dsimp only at hSw);go_simp;try(with_reducible rfl))
 try simp only[Act.put,List.setIfInBounds_toArray,List.set_cons_zero,List.set_cons_succ]
 refine wpAnyH_take (i:=11) (v:=?_) A1 kR kR kR A2 (Or.inl ⟨rF,?_⟩) A3 ?_
 rotate_left 1
 ·(intro wS hSw;(try dsimp only at hSw);go_simp;try(with_reducible rfl))
 try simp only[Act.put,List.setIfInBounds_toArray,List.set_cons_zero,List.set_cons_succ]
 refine wpAnyH_take (i:=12) (v:=?_) A1 kR kR kR A2 (Or.inl ⟨rF,?_⟩) A3 ?_
 rotate_left 1
 ·(intro wS hSw;(try dsimp only at hSw);go_simp;try(with_reducible rfl))
 try simp only[Act.put,List.setIfInBounds_toArray,List.set_cons_zero,List.set_cons_succ]
 refine wpAnyH_take (i:=13) (v:=?_) A1 kR kR kR A2 (Or.inl ⟨rF,?_⟩) A3 ?_
 rotate_left 1
 ·(intro wS hSw;(try dsimp only at hSw);go_simp;try(with_reducible rfl))
 try simp only[Act.put,List.setIfInBounds_toArray,List.set_cons_zero,List.set_cons_succ]
 refine wpAnyH_take (i:=14) (v:=?_) A1 kR kR kR A2 (Or.inl ⟨rF,?_⟩) A3 ?_
 rotate_left 1
 ·(intro wS hSw;(try dsimp only at hSw);go_simp;try(with_reducible rfl))
 try simp only[Act.put,List.setIfInBounds_toArray,List.set_cons_zero,List.set_cons_succ]
 refine wpAnyH_take (i:=15) (v:=?_) A1 kR kR kR A2 (Or.inl ⟨rF,?_⟩) A3 ?_
 rotate_left 1
 ·(intro wS hSw;(try dsimp only at hSw);go_simp;try(with_reducible rfl))
 try simp only[Act.put,List.setIfInBounds_toArray,List.set_cons_zero,List.set_cons_succ]
 refine wpAnyH_take (i:=16) (v:=?_) A1 kR kR kR A2 (Or.inl ⟨rF,?_⟩) A3 ?_
 rotate_left 1
 ·(intro wS hSw;(try dsimp only at hSw);go_simp;try(with_reducible rfl))
 try simp only[Act.put,List.setIfInBounds_toArray,List.set_cons_zero,List.set_cons_succ]
 clear hJ;refine B5 17 fun K hK=>?_;go_simp;refine B3 hK fun hJ=>?_;clear hK K;refine wpAnyH_done kR ?_ _;go_wp2;refine bodyPost_ret (by simp[results,results62,go_sem, *];try rfl) rfl ?_;exact⟨rfl,gG⟩
theorem Hv(D A B E:Int)(w:World):
 (Instr.index 109 (.agg #[.int .i64 D,.int .i64 A,.int .i64 B,.int .i64 E]) (.int .i64 0)).run prog w=.ok (.int .i64 D) w/\
 (Instr.index 109 (.agg #[.int .i64 D,.int .i64 A,.int .i64 B,.int .i64 E]) (.int .i64 1)).run prog w=.ok (.int .i64 A) w/\
 (Instr.index 109 (.agg #[.int .i64 D,.int .i64 A,.int .i64 B,.int .i64 E]) (.int .i64 2)).run prog w=.ok (.int .i64 B) w/\
 (Instr.index 109 (.agg #[.int .i64 D,.int .i64 A,.int .i64 B,.int .i64 E]) (.int .i64 3)).run prog w=.ok (.int .i64 E) w:=by
 refine⟨?_,?_,?_,?_⟩<;>simp[Instr.index,run_underlying underlying109,asIntOf,part,go_sem]
structure FW(w:World)(G:Nat)(L0 L1 L2 L3 L4 K P:Int)(v:World):Prop where
 bel:Below w.heap.size w v
 r0:v.cell? ⟨w.heap.size,0,none⟩=some (.int .i64 L0)
 r1:v.cell? ⟨w.heap.size,1,none⟩=some (.int .i64 L1)
 r2:v.cell? ⟨w.heap.size,2,none⟩=some (.int .i64 L2)
 r3:v.cell? ⟨w.heap.size,3,none⟩=some (.int .i64 L3)
 r4:v.cell? ⟨w.heap.size,4,none⟩=some (.int .i64 L4)
 m0:v.cell? ⟨G,0,none⟩=some (.int .i64 K)
 m1:v.cell? ⟨G,1,none⟩=some (.int .i64 P)
theorem FW.next{w:World}{G:Nat}{L0 L1 L2 L3 L4 K P:Int}{v v':World}(h:FW w G L0 L1 L2 L3 L4 K P v)(k:Below v.heap.size v v'):FW w G L0 L1 L2 L3 L4 K P v':=
 ⟨Go.Proofs.Ytheanilpbnencaa.bel h.bel k,kc k h.r0,kc k h.r1,kc k h.r2,kc k h.r3,kc k h.r4,kc k h.m0,kc k h.m1⟩
theorem Fa(C:Nat)(v0 v1 v2 v3:Value)(c:Cd)(hk:AX c)(b o:Nat)(i:Au)(r:Rw)(w:World)(hc:As w C v0 v1 v2 v3 c)(hi:A8 w b o (B9 i))(h0:0<=i.bits)(h1:i.bits<4294967296)
 (hp:A7 c.regs r.d i.d (Ae c.regs i r)=true->A7 c.regs r.a i.a (Ae c.regs i r)=true->r.n=9->Ao (Ae c.regs i r).par c.sign.length=true):
 Calls prog 43 #[.pointer (some ⟨C,0,none⟩),.pointer (some ⟨b,o,none⟩),AW r] w fun e w'=>e=.returned (.bool (AR c i r))/\Below w.heap.size w w':=by
 have KM:=fun w h k=>BS C v0 v1 v2 v3 c hk b o i r w h k;have KR:=fun w k=>Bp b o i w k;have K0:=fun w h=>Ax C v0 v1 v2 v3 c hk r.d i.d (Ae c.regs i r) w h;have K1:=fun w h=>Ax C v0 v1 v2 v3 c hk r.a i.a (Ae c.regs i r) w h;have K2:=fun w h=>Ax C v0 v1 v2 v3 c hk r.b i.b (Ae c.regs i r) w h;have K3:=fun w h=>Ax C v0 v1 v2 v3 c hk r.c i.c (Ae c.regs i r) w h;have K4:=fun hq w h k=>Dl C v0 v1 v2 v3 c hk b o i r.n (Ae c.regs i r) w h k h0 h1 hq;have HC0:Hid (As w C v0 v1 v2 v3 c):=hc;have HI0:Hid (A8 w b o (B9 i)):=hi;have hfc:AR c i r=(A7 c.regs r.d i.d (Ae c.regs i r)&&(A7 c.regs r.a i.a (Ae c.regs i r)&&(A7 c.regs r.b i.b (Ae c.regs i r)&&(A7 c.regs r.c i.c (Ae c.regs i r)&&AG c i r.n (Ae c.regs i r))))):=rfl;rw[hfc];clear hfc hc hi hk h0 h1;obtain⟨M,hM⟩:=gA (Ae c.regs i r)
 simp only[hM]at KM K0 K1 K2 K3 K4 hp |-;obtain⟨X0,hX0⟩:∃X,A7 c.regs r.d i.d M=X:=⟨_,rfl⟩
 obtain⟨X1,hX1⟩:∃X,A7 c.regs r.a i.a M=X:=⟨_,rfl⟩
 obtain⟨X2,hX2⟩:∃X,A7 c.regs r.b i.b M=X:=⟨_,rfl⟩
 obtain⟨X3,hX3⟩:∃X,A7 c.regs r.c i.c M=X:=⟨_,rfl⟩
 obtain⟨Y,hY⟩:∃X,AG c i r.n M=X:=⟨_,rfl⟩
 simp only[hX0]at K0 hp |-;simp only[hX1]at K1 hp |-;simp only[hX2]at K2 |-;simp only[hX3]at K3 |-;simp only[hY]at K4 |-;obtain⟨L0,L1,L2,L3,L4⟩:=r;obtain⟨K,P⟩:=M;obtain⟨io,D,A,B,E,n,bt⟩:=i;unfold AW at KM |-;unfold Ck at KM K0 K1 K2 K3 K4;simp only at KM KR K0 K1 K2 K3 K4 hp |-;have HKM:Hid (∀w,As w C v0 v1 v2 v3 c->A8 w b o (B9 ⟨io,D,A,B,E,n,bt⟩)->Calls prog 61 #[.pointer (some ⟨C,0,none⟩),.pointer (some ⟨b,o,none⟩),.agg #[.int .i64 L0,.int .i64 L1,.int .i64 L2,.int .i64 L3,.int .i64 L4]] w fun e w'=>e=.returned (.agg #[.int .i64 K,.int .i64 P])/\Below w.heap.size w w'):=KM;have HKR:Hid (∀w,A8 w b o (B9 ⟨io,D,A,B,E,n,bt⟩)->Calls prog 62 #[.pointer (some ⟨b,o,none⟩)] w fun e w'=>e=.returned (.agg #[.int .i64 D,.int .i64 A,.int .i64 B,.int .i64 E])/\Below w.heap.size w w'):=KR;have HK0:Hid (∀w,As w C v0 v1 v2 v3 c->Calls prog 63 #[.pointer (some ⟨C,0,none⟩),.int .i64 L0,.int .i64 D,.agg #[.int .i64 K,.int .i64 P]] w fun e w'=>e=.returned (.bool X0)/\Below w.heap.size w w'):=K0;have HK1:Hid (∀w,As w C v0 v1 v2 v3 c->Calls prog 63 #[.pointer (some ⟨C,0,none⟩),.int .i64 L1,.int .i64 A,.agg #[.int .i64 K,.int .i64 P]] w fun e w'=>e=.returned (.bool X1)/\Below w.heap.size w w'):=K1;have HK2:Hid (∀w,As w C v0 v1 v2 v3 c->Calls prog 63 #[.pointer (some ⟨C,0,none⟩),.int .i64 L2,.int .i64 B,.agg #[.int .i64 K,.int .i64 P]] w fun e w'=>e=.returned (.bool X2)/\Below w.heap.size w w'):=K2;have HK3:Hid (∀w,As w C v0 v1 v2 v3 c->Calls prog 63 #[.pointer (some ⟨C,0,none⟩),.int .i64 L3,.int .i64 E,.agg #[.int .i64 K,.int .i64 P]] w fun e w'=>e=.returned (.bool X3)/\Below w.heap.size w w'):=K3;have HK4:Hid ((L4=9->Ao P c.sign.length=true)->∀w,As w C v0 v1 v2 v3 c->A8 w b o (B9 ⟨io,D,A,B,E,n,bt⟩)->Calls prog 64 #[.pointer (some ⟨C,0,none⟩),.pointer (some ⟨b,o,none⟩),.int .i64 L4,.agg #[.int .i64 K,.int .i64 P]] w fun e w'=>e=.returned (.bool Y)/\Below w.heap.size w w'):=K4;have HP:Hid (X0=true->X1=true->L4=9->Ao P c.sign.length=true):=hp;clear KM KR K0 K1 K2 K3 K4 hp hM hX0 hX1 hX2 hX3 hY;go_enter func43,ntmps43;go_wp2_with(first
  |(go_at_call 61;refine(HKM.out _ (HC0.below (A0 _ _)) (HI0.below (A0 _ _))).mono ?_;rintro e w1 ⟨rfl,hb1⟩;have HF1:Hid (FW w w1.heap.size L0 L1 L2 L3 L4 K P (w1.alloc (.cells #[.int .i64 K,.int .i64 P] 47))):=(by exact⟨bel (bel (A0 _ _) hb1) (A0 _ _),kc (A0 _ _) (kc hb1 sG),kc (A0 _ _) (kc hb1 sG),kc (A0 _ _) (kc hb1 sG),kc (A0 _ _) (kc hb1 sG),kc (A0 _ _) (kc hb1 sG),sG,sG⟩))
  |(go_at_call 62;refine(HKR.out _ (HI0.below HF1.bel)).mono ?_;rintro e w2 ⟨rfl,hb2⟩;have HF2:Hid (FW w w1.heap.size L0 L1 L2 L3 L4 K P w2):=HF1.next hb2))
 obtain⟨G,hG⟩:=gA (w1.heap.size)
 rw[hG]at HF2 |-
 go_loopw [16] (fun iv wr=>FW w G L0 L1 L2 L3 L4 K P wr/\∃j:Nat,j<=4/\iv=.int .i64 j/\Hid ((0<j->X0=true)/\(1<j->X1=true)/\(2<j->X2=true)/\(3<j->X3=true))) (fun iv _=>4-(intOf iv).toNat)
 case atStart=>exact⟨HF2.out,0,oM,rfl,⟨fun h=>absurd h oM,fun h=>absurd h oM,fun h=>absurd h oM,fun h=>absurd h oM⟩⟩
 case round=>
  clear HF1 HF2 HKM HKR hb1 hb2 hG;obtain⟨hF,j,hj,rfl,hp⟩:=hrel;have m0:=hF.m0;have m1:=hF.m1;have HF:Hid (FW w G L0 L1 L2 L3 L4 K P wr):=hF;have HC:Hid (∀v,Below wr.heap.size wr v->FW w G L0 L1 L2 L3 L4 K P v):=fun v hv=>HF.next hv;obtain rfl|rfl|rfl|rfl|rfl:j=0\/j=1\/j=2\/j=3\/j=4:=oM
  .have r0:=hF.r0;have ix:∀w,(Instr.index 109 (.agg #[.int .i64 D,.int .i64 A,.int .i64 B,.int .i64 E]) (.int .i64 0)).run prog w=.ok (.int .i64 D) w:=fun w=>(Hv D A B E w).1;clear hF;have HC1:Hid (∀v,Below wr.heap.size wr v->v.cell? ⟨w.heap.size,0,none⟩=some (.int .i64 L0)/\v.cell? ⟨G,0,none⟩=some (.int .i64 K)/\v.cell? ⟨G,1,none⟩=some (.int .i64 P)):=fun v hv=>⟨(HC.out v hv).r0,(HC.out v hv).m0,(HC.out v hv).m1⟩
   cases X0
   .go_wp2;refine rG (fun v=>v.cell? ⟨w.heap.size,0,none⟩=some (.int .i64 L0)/\v.cell? ⟨G,0,none⟩=some (.int .i64 K)/\v.cell? ⟨G,1,none⟩=some (.int .i64 P)) fun hJ=>?_;refine wpAnyH_take (i:=0) (v:=?_) A1 kR kR kR A2 (Or.inl ⟨rF,?_⟩) A3 ?_
    rotate_left 1
    ·(intro wS hSw;(try dsimp only at hSw);go_simp;try(with_reducible rfl))
    try simp only[Act.put,List.setIfInBounds_toArray,List.set_cons_zero,List.set_cons_succ]
    refine wpAnyH_take (i:=1) (v:=?_) A1 kR kR kR A2 (Or.inl ⟨rF,?_⟩) A3 ?_
    rotate_left 1
    ·(intro wS hSw;(try dsimp only at hSw);go_simp;try(with_reducible rfl))
    try simp only[Act.put,List.setIfInBounds_toArray,List.set_cons_zero,List.set_cons_succ]
    refine wpAnyH_take (i:=2) (v:=?_) A1 kR kR kR A2 (Or.inl ⟨rF,?_⟩) A3 ?_
    rotate_left 1
    ·(intro wS hSw;(try dsimp only at hSw);go_simp;try(with_reducible rfl))
    try simp only[Act.put,List.setIfInBounds_toArray,List.set_cons_zero,List.set_cons_succ]
    refine wpAnyH_take (i:=3) (v:=?_) A1 kR kR kR A2 (Or.inl ⟨rF,?_⟩) A3 ?_
    rotate_left 1
    ·(intro wS hSw;(try dsimp only at hSw);go_simp;try(with_reducible rfl))
    try simp only[Act.put,List.setIfInBounds_toArray,List.set_cons_zero,List.set_cons_succ]
    refine wpAnyH_take (i:=4) (v:=?_) A1 kR kR kR A2 (Or.inl ⟨rF,?_⟩) A3 ?_
    rotate_left 1
    ·(intro wS hSw;(try dsimp only at hSw);go_simp;try(with_reducible rfl))
    try simp only[Act.put,List.setIfInBounds_toArray,List.set_cons_zero,List.set_cons_succ]
    refine wpAnyH_take (i:=5) (v:=?_) A1 kR kR kR A2 (Or.inl ⟨rF,?_⟩) A3 ?_
    rotate_left 1
    ·(intro wS hSw;(try dsimp only at hSw);go_simp;try(with_reducible rfl))
    try simp only[Act.put,List.setIfInBounds_toArray,List.set_cons_zero,List.set_cons_succ]
    clear hJ;refine B5 6 fun K hK=>?_;go_simp;(go_at_call 63;refine(HK0.out _ ((HC0.below HF.bel).below (A5 _))).mono ?_;rintro e w3 ⟨rfl,hb3⟩;have HB3:=bel (A5 _) hb3;obtain⟨y0,y1,y2⟩:=HC1.out w3 HB3);exact Hm
   .go_wp2;refine rG (fun v=>v.cell? ⟨w.heap.size,0,none⟩=some (.int .i64 L0)/\v.cell? ⟨G,0,none⟩=some (.int .i64 K)/\v.cell? ⟨G,1,none⟩=some (.int .i64 P)) fun hJ=>?_;refine wpAnyH_take (i:=0) (v:=?_) A1 kR kR kR A2 (Or.inl ⟨rF,?_⟩) A3 ?_
    rotate_left 1
    ·(intro wS hSw;(try dsimp only at hSw);go_simp;try(with_reducible rfl))
    try simp only[Act.put,List.setIfInBounds_toArray,List.set_cons_zero,List.set_cons_succ]
    refine wpAnyH_take (i:=1) (v:=?_) A1 kR kR kR A2 (Or.inl ⟨rF,?_⟩) A3 ?_
    rotate_left 1
    ·(intro wS hSw;(try dsimp only at hSw);go_simp;try(with_reducible rfl))
    try simp only[Act.put,List.setIfInBounds_toArray,List.set_cons_zero,List.set_cons_succ]
    refine wpAnyH_take (i:=2) (v:=?_) A1 kR kR kR A2 (Or.inl ⟨rF,?_⟩) A3 ?_
    rotate_left 1
    ·(intro wS hSw;(try dsimp only at hSw);go_simp;try(with_reducible rfl))
    try simp only[Act.put,List.setIfInBounds_toArray,List.set_cons_zero,List.set_cons_succ]
    refine wpAnyH_take (i:=3) (v:=?_) A1 kR kR kR A2 (Or.inl ⟨rF,?_⟩) A3 ?_
    rotate_left 1
    ·(intro wS hSw;(try dsimp only at hSw);go_simp;try(with_reducible rfl))
    try simp only[Act.put,List.setIfInBounds_toArray,List.set_cons_zero,List.set_cons_succ]
    refine wpAnyH_take (i:=4) (v:=?_) A1 kR kR kR A2 (Or.inl ⟨rF,?_⟩) A3 ?_
    rotate_left 1
    ·(intro wS hSw;(try dsimp only at hSw);go_simp;try(with_reducible rfl))
    try simp only[Act.put,List.setIfInBounds_toArray,List.set_cons_zero,List.set_cons_succ]
    refine wpAnyH_take (i:=5) (v:=?_) A1 kR kR kR A2 (Or.inl ⟨rF,?_⟩) A3 ?_
    rotate_left 1
    ·(intro wS hSw;(try dsimp only at hSw);go_simp;try(with_reducible rfl))
    try simp only[Act.put,List.setIfInBounds_toArray,List.set_cons_zero,List.set_cons_succ]
    clear hJ;refine B5 6 fun K hK=>?_;go_simp;(go_at_call 63;refine(HK0.out _ ((HC0.below HF.bel).below (A5 _))).mono ?_;rintro e w3 ⟨rfl,hb3⟩;have HB3:=bel (A5 _) hb3;obtain⟨y0,y1,y2⟩:=HC1.out w3 HB3);try(go_wp2_with fail)
    refine B3 hK fun hJ=>?_;clear hK K;refine wpAnyH_take (i:=7) (v:=?_) A1 kR kR kR A2 (Or.inl ⟨rF,?_⟩) A3 ?_
    rotate_left 1
    ·(intro wS hSw;(try dsimp only at hSw);go_simp;try(with_reducible rfl))
    try simp only[Act.put,List.setIfInBounds_toArray,List.set_cons_zero,List.set_cons_succ]
    refine wpAnyH_done kR ?_ _;go_wp2;go_roundw
    case rel=>exact⟨HC.out w3 HB3,1,oM,by first|rfl|go_num,⟨fun _=>fT,fun h=>absurd h oM,fun h=>absurd h oM,fun h=>absurd h oM⟩⟩
    case measure=>simp[intOf]
  .have r0:=hF.r1;have ix:∀w,(Instr.index 109 (.agg #[.int .i64 D,.int .i64 A,.int .i64 B,.int .i64 E]) (.int .i64 1)).run prog w=.ok (.int .i64 A) w:=fun w=>(Hv D A B E w).2.1;clear hF;have HC1:Hid (∀v,Below wr.heap.size wr v->v.cell? ⟨w.heap.size,1,none⟩=some (.int .i64 L1)/\v.cell? ⟨G,0,none⟩=some (.int .i64 K)/\v.cell? ⟨G,1,none⟩=some (.int .i64 P)):=fun v hv=>⟨(HC.out v hv).r1,(HC.out v hv).m0,(HC.out v hv).m1⟩
   cases X1
   .go_wp2;refine rG (fun v=>v.cell? ⟨w.heap.size,1,none⟩=some (.int .i64 L1)/\v.cell? ⟨G,0,none⟩=some (.int .i64 K)/\v.cell? ⟨G,1,none⟩=some (.int .i64 P)) fun hJ=>?_;refine wpAnyH_take (i:=0) (v:=?_) A1 kR kR kR A2 (Or.inl ⟨rF,?_⟩) A3 ?_
    rotate_left 1
    ·(intro wS hSw;(try dsimp only at hSw);go_simp;try(with_reducible rfl))
    try simp only[Act.put,List.setIfInBounds_toArray,List.set_cons_zero,List.set_cons_succ]
    refine wpAnyH_take (i:=1) (v:=?_) A1 kR kR kR A2 (Or.inl ⟨rF,?_⟩) A3 ?_
    rotate_left 1
    ·(intro wS hSw;(try dsimp only at hSw);go_simp;try(with_reducible rfl))
    try simp only[Act.put,List.setIfInBounds_toArray,List.set_cons_zero,List.set_cons_succ]
    refine wpAnyH_take (i:=2) (v:=?_) A1 kR kR kR A2 (Or.inl ⟨rF,?_⟩) A3 ?_
    rotate_left 1
    ·(intro wS hSw;(try dsimp only at hSw);go_simp;try(with_reducible rfl))
    try simp only[Act.put,List.setIfInBounds_toArray,List.set_cons_zero,List.set_cons_succ]
    refine wpAnyH_take (i:=3) (v:=?_) A1 kR kR kR A2 (Or.inl ⟨rF,?_⟩) A3 ?_
    rotate_left 1
    ·(intro wS hSw;(try dsimp only at hSw);go_simp;try(with_reducible rfl))
    try simp only[Act.put,List.setIfInBounds_toArray,List.set_cons_zero,List.set_cons_succ]
    refine wpAnyH_take (i:=4) (v:=?_) A1 kR kR kR A2 (Or.inl ⟨rF,?_⟩) A3 ?_
    rotate_left 1
    ·(intro wS hSw;(try dsimp only at hSw);go_simp;try(with_reducible rfl))
    try simp only[Act.put,List.setIfInBounds_toArray,List.set_cons_zero,List.set_cons_succ]
    refine wpAnyH_take (i:=5) (v:=?_) A1 kR kR kR A2 (Or.inl ⟨rF,?_⟩) A3 ?_
    rotate_left 1
    ·(intro wS hSw;(try dsimp only at hSw);go_simp;try(with_reducible rfl))
    try simp only[Act.put,List.setIfInBounds_toArray,List.set_cons_zero,List.set_cons_succ]
    clear hJ;refine B5 6 fun K hK=>?_;go_simp;(go_at_call 63;refine(HK1.out _ ((HC0.below HF.bel).below (A5 _))).mono ?_;rintro e w3 ⟨rfl,hb3⟩;have HB3:=bel (A5 _) hb3;obtain⟨y0,y1,y2⟩:=HC1.out w3 HB3);exact Hm
   .go_wp2;refine rG (fun v=>v.cell? ⟨w.heap.size,1,none⟩=some (.int .i64 L1)/\v.cell? ⟨G,0,none⟩=some (.int .i64 K)/\v.cell? ⟨G,1,none⟩=some (.int .i64 P)) fun hJ=>?_;refine wpAnyH_take (i:=0) (v:=?_) A1 kR kR kR A2 (Or.inl ⟨rF,?_⟩) A3 ?_
    rotate_left 1
    ·(intro wS hSw;(try dsimp only at hSw);go_simp;try(with_reducible rfl))
    try simp only[Act.put,List.setIfInBounds_toArray,List.set_cons_zero,List.set_cons_succ]
    refine wpAnyH_take (i:=1) (v:=?_) A1 kR kR kR A2 (Or.inl ⟨rF,?_⟩) A3 ?_
    rotate_left 1
    ·(intro wS hSw;(try dsimp only at hSw);go_simp;try(with_reducible rfl))
    try simp only[Act.put,List.setIfInBounds_toArray,List.set_cons_zero,List.set_cons_succ]
    refine wpAnyH_take (i:=2) (v:=?_) A1 kR kR kR A2 (Or.inl ⟨rF,?_⟩) A3 ?_
    rotate_left 1
    ·(intro wS hSw;(try dsimp only at hSw);go_simp;try(with_reducible rfl))
    try simp only[Act.put,List.setIfInBounds_toArray,List.set_cons_zero,List.set_cons_succ]
    refine wpAnyH_take (i:=3) (v:=?_) A1 kR kR kR A2 (Or.inl ⟨rF,?_⟩) A3 ?_
    rotate_left 1
    ·(intro wS hSw;(try dsimp only at hSw);go_simp;try(with_reducible rfl))
    try simp only[Act.put,List.setIfInBounds_toArray,List.set_cons_zero,List.set_cons_succ]
    refine wpAnyH_take (i:=4) (v:=?_) A1 kR kR kR A2 (Or.inl ⟨rF,?_⟩) A3 ?_
    rotate_left 1
    ·(intro wS hSw;(try dsimp only at hSw);go_simp;try(with_reducible rfl))
    try simp only[Act.put,List.setIfInBounds_toArray,List.set_cons_zero,List.set_cons_succ]
    refine wpAnyH_take (i:=5) (v:=?_) A1 kR kR kR A2 (Or.inl ⟨rF,?_⟩) A3 ?_
    rotate_left 1
    ·(intro wS hSw;(try dsimp only at hSw);go_simp;try(with_reducible rfl))
    try simp only[Act.put,List.setIfInBounds_toArray,List.set_cons_zero,List.set_cons_succ]
    clear hJ;refine B5 6 fun K hK=>?_;go_simp;(go_at_call 63;refine(HK1.out _ ((HC0.below HF.bel).below (A5 _))).mono ?_;rintro e w3 ⟨rfl,hb3⟩;have HB3:=bel (A5 _) hb3;obtain⟨y0,y1,y2⟩:=HC1.out w3 HB3);try(go_wp2_with fail)
    refine B3 hK fun hJ=>?_;clear hK K;refine wpAnyH_take (i:=7) (v:=?_) A1 kR kR kR A2 (Or.inl ⟨rF,?_⟩) A3 ?_
    rotate_left 1
    ·(intro wS hSw;(try dsimp only at hSw);go_simp;try(with_reducible rfl))
    try simp only[Act.put,List.setIfInBounds_toArray,List.set_cons_zero,List.set_cons_succ]
    refine wpAnyH_done kR ?_ _;go_wp2;go_roundw
    case rel=>exact⟨HC.out w3 HB3,2,oM,by first|rfl|go_num,⟨fun _=>hp.1 oM,fun _=>fT,fun h=>absurd h oM,fun h=>absurd h oM⟩⟩
    case measure=>simp[intOf]
  .have r0:=hF.r2;have ix:∀w,(Instr.index 109 (.agg #[.int .i64 D,.int .i64 A,.int .i64 B,.int .i64 E]) (.int .i64 2)).run prog w=.ok (.int .i64 B) w:=fun w=>(Hv D A B E w).2.2.1;clear hF;have HC1:Hid (∀v,Below wr.heap.size wr v->v.cell? ⟨w.heap.size,2,none⟩=some (.int .i64 L2)/\v.cell? ⟨G,0,none⟩=some (.int .i64 K)/\v.cell? ⟨G,1,none⟩=some (.int .i64 P)):=fun v hv=>⟨(HC.out v hv).r2,(HC.out v hv).m0,(HC.out v hv).m1⟩
   cases X2
   .go_wp2;refine rG (fun v=>v.cell? ⟨w.heap.size,2,none⟩=some (.int .i64 L2)/\v.cell? ⟨G,0,none⟩=some (.int .i64 K)/\v.cell? ⟨G,1,none⟩=some (.int .i64 P)) fun hJ=>?_;refine wpAnyH_take (i:=0) (v:=?_) A1 kR kR kR A2 (Or.inl ⟨rF,?_⟩) A3 ?_
    rotate_left 1
    ·(intro wS hSw;(try dsimp only at hSw);go_simp;try(with_reducible rfl))
    try simp only[Act.put,List.setIfInBounds_toArray,List.set_cons_zero,List.set_cons_succ]
    refine wpAnyH_take (i:=1) (v:=?_) A1 kR kR kR A2 (Or.inl ⟨rF,?_⟩) A3 ?_
    rotate_left 1
    ·(intro wS hSw;(try dsimp only at hSw);go_simp;try(with_reducible rfl))
    try simp only[Act.put,List.setIfInBounds_toArray,List.set_cons_zero,List.set_cons_succ]
    refine wpAnyH_take (i:=2) (v:=?_) A1 kR kR kR A2 (Or.inl ⟨rF,?_⟩) A3 ?_
    rotate_left 1
    ·(intro wS hSw;(try dsimp only at hSw);go_simp;try(with_reducible rfl))
    try simp only[Act.put,List.setIfInBounds_toArray,List.set_cons_zero,List.set_cons_succ]
    refine wpAnyH_take (i:=3) (v:=?_) A1 kR kR kR A2 (Or.inl ⟨rF,?_⟩) A3 ?_
    rotate_left 1
    ·(intro wS hSw;(try dsimp only at hSw);go_simp;try(with_reducible rfl))
    try simp only[Act.put,List.setIfInBounds_toArray,List.set_cons_zero,List.set_cons_succ]
    refine wpAnyH_take (i:=4) (v:=?_) A1 kR kR kR A2 (Or.inl ⟨rF,?_⟩) A3 ?_
    rotate_left 1
    ·(intro wS hSw;(try dsimp only at hSw);go_simp;try(with_reducible rfl))
    try simp only[Act.put,List.setIfInBounds_toArray,List.set_cons_zero,List.set_cons_succ]
    refine wpAnyH_take (i:=5) (v:=?_) A1 kR kR kR A2 (Or.inl ⟨rF,?_⟩) A3 ?_
    rotate_left 1
    ·(intro wS hSw;(try dsimp only at hSw);go_simp;try(with_reducible rfl))
    try simp only[Act.put,List.setIfInBounds_toArray,List.set_cons_zero,List.set_cons_succ]
    clear hJ;refine B5 6 fun K hK=>?_;go_simp;(go_at_call 63;refine(HK2.out _ ((HC0.below HF.bel).below (A5 _))).mono ?_;rintro e w3 ⟨rfl,hb3⟩;have HB3:=bel (A5 _) hb3;obtain⟨y0,y1,y2⟩:=HC1.out w3 HB3);exact Hm
   .go_wp2;refine rG (fun v=>v.cell? ⟨w.heap.size,2,none⟩=some (.int .i64 L2)/\v.cell? ⟨G,0,none⟩=some (.int .i64 K)/\v.cell? ⟨G,1,none⟩=some (.int .i64 P)) fun hJ=>?_;refine wpAnyH_take (i:=0) (v:=?_) A1 kR kR kR A2 (Or.inl ⟨rF,?_⟩) A3 ?_
    rotate_left 1
    ·(intro wS hSw;(try dsimp only at hSw);go_simp;try(with_reducible rfl))
    try simp only[Act.put,List.setIfInBounds_toArray,List.set_cons_zero,List.set_cons_succ]
    refine wpAnyH_take (i:=1) (v:=?_) A1 kR kR kR A2 (Or.inl ⟨rF,?_⟩) A3 ?_
    rotate_left 1
    ·(intro wS hSw;(try dsimp only at hSw);go_simp;try(with_reducible rfl))
    try simp only[Act.put,List.setIfInBounds_toArray,List.set_cons_zero,List.set_cons_succ]
    refine wpAnyH_take (i:=2) (v:=?_) A1 kR kR kR A2 (Or.inl ⟨rF,?_⟩) A3 ?_
    rotate_left 1
    ·(intro wS hSw;(try dsimp only at hSw);go_simp;try(with_reducible rfl))
    try simp only[Act.put,List.setIfInBounds_toArray,List.set_cons_zero,List.set_cons_succ]
    refine wpAnyH_take (i:=3) (v:=?_) A1 kR kR kR A2 (Or.inl ⟨rF,?_⟩) A3 ?_
    rotate_left 1
    ·(intro wS hSw;(try dsimp only at hSw);go_simp;try(with_reducible rfl))
    try simp only[Act.put,List.setIfInBounds_toArray,List.set_cons_zero,List.set_cons_succ]
    refine wpAnyH_take (i:=4) (v:=?_) A1 kR kR kR A2 (Or.inl ⟨rF,?_⟩) A3 ?_
    rotate_left 1
    ·(intro wS hSw;(try dsimp only at hSw);go_simp;try(with_reducible rfl))
    try simp only[Act.put,List.setIfInBounds_toArray,List.set_cons_zero,List.set_cons_succ]
    refine wpAnyH_take (i:=5) (v:=?_) A1 kR kR kR A2 (Or.inl ⟨rF,?_⟩) A3 ?_
    rotate_left 1
    ·(intro wS hSw;(try dsimp only at hSw);go_simp;try(with_reducible rfl))
    try simp only[Act.put,List.setIfInBounds_toArray,List.set_cons_zero,List.set_cons_succ]
    clear hJ;refine B5 6 fun K hK=>?_;go_simp;(go_at_call 63;refine(HK2.out _ ((HC0.below HF.bel).below (A5 _))).mono ?_;rintro e w3 ⟨rfl,hb3⟩;have HB3:=bel (A5 _) hb3;obtain⟨y0,y1,y2⟩:=HC1.out w3 HB3);try(go_wp2_with fail)
    refine B3 hK fun hJ=>?_;clear hK K;refine wpAnyH_take (i:=7) (v:=?_) A1 kR kR kR A2 (Or.inl ⟨rF,?_⟩) A3 ?_
    rotate_left 1
    ·(intro wS hSw;(try dsimp only at hSw);go_simp;try(with_reducible rfl))
    try simp only[Act.put,List.setIfInBounds_toArray,List.set_cons_zero,List.set_cons_succ]
    refine wpAnyH_done kR ?_ _;go_wp2;go_roundw
    case rel=>exact⟨HC.out w3 HB3,3,oM,by first|rfl|go_num,⟨fun _=>hp.1 oM,fun _=>hp.2.1 oM,fun _=>fT,fun h=>absurd h oM⟩⟩
    case measure=>simp[intOf]
  .have r0:=hF.r3;have ix:∀w,(Instr.index 109 (.agg #[.int .i64 D,.int .i64 A,.int .i64 B,.int .i64 E]) (.int .i64 3)).run prog w=.ok (.int .i64 E) w:=fun w=>(Hv D A B E w).2.2.2;clear hF;have HC1:Hid (∀v,Below wr.heap.size wr v->v.cell? ⟨w.heap.size,3,none⟩=some (.int .i64 L3)/\v.cell? ⟨G,0,none⟩=some (.int .i64 K)/\v.cell? ⟨G,1,none⟩=some (.int .i64 P)):=fun v hv=>⟨(HC.out v hv).r3,(HC.out v hv).m0,(HC.out v hv).m1⟩
   cases X3
   .go_wp2;refine rG (fun v=>v.cell? ⟨w.heap.size,3,none⟩=some (.int .i64 L3)/\v.cell? ⟨G,0,none⟩=some (.int .i64 K)/\v.cell? ⟨G,1,none⟩=some (.int .i64 P)) fun hJ=>?_;refine wpAnyH_take (i:=0) (v:=?_) A1 kR kR kR A2 (Or.inl ⟨rF,?_⟩) A3 ?_
    rotate_left 1
    ·(intro wS hSw;(try dsimp only at hSw);go_simp;try(with_reducible rfl))
    try simp only[Act.put,List.setIfInBounds_toArray,List.set_cons_zero,List.set_cons_succ]
    refine wpAnyH_take (i:=1) (v:=?_) A1 kR kR kR A2 (Or.inl ⟨rF,?_⟩) A3 ?_
    rotate_left 1
    ·(intro wS hSw;(try dsimp only at hSw);go_simp;try(with_reducible rfl))
    try simp only[Act.put,List.setIfInBounds_toArray,List.set_cons_zero,List.set_cons_succ]
    refine wpAnyH_take (i:=2) (v:=?_) A1 kR kR kR A2 (Or.inl ⟨rF,?_⟩) A3 ?_
    rotate_left 1
    ·(intro wS hSw;(try dsimp only at hSw);go_simp;try(with_reducible rfl))
    try simp only[Act.put,List.setIfInBounds_toArray,List.set_cons_zero,List.set_cons_succ]
    refine wpAnyH_take (i:=3) (v:=?_) A1 kR kR kR A2 (Or.inl ⟨rF,?_⟩) A3 ?_
    rotate_left 1
    ·(intro wS hSw;(try dsimp only at hSw);go_simp;try(with_reducible rfl))
    try simp only[Act.put,List.setIfInBounds_toArray,List.set_cons_zero,List.set_cons_succ]
    refine wpAnyH_take (i:=4) (v:=?_) A1 kR kR kR A2 (Or.inl ⟨rF,?_⟩) A3 ?_
    rotate_left 1
    ·(intro wS hSw;(try dsimp only at hSw);go_simp;try(with_reducible rfl))
    try simp only[Act.put,List.setIfInBounds_toArray,List.set_cons_zero,List.set_cons_succ]
    refine wpAnyH_take (i:=5) (v:=?_) A1 kR kR kR A2 (Or.inl ⟨rF,?_⟩) A3 ?_
    rotate_left 1
    ·(intro wS hSw;(try dsimp only at hSw);go_simp;try(with_reducible rfl))
    try simp only[Act.put,List.setIfInBounds_toArray,List.set_cons_zero,List.set_cons_succ]
    clear hJ;refine B5 6 fun K hK=>?_;go_simp;(go_at_call 63;refine(HK3.out _ ((HC0.below HF.bel).below (A5 _))).mono ?_;rintro e w3 ⟨rfl,hb3⟩;have HB3:=bel (A5 _) hb3;obtain⟨y0,y1,y2⟩:=HC1.out w3 HB3);exact Hm
   .go_wp2;refine rG (fun v=>v.cell? ⟨w.heap.size,3,none⟩=some (.int .i64 L3)/\v.cell? ⟨G,0,none⟩=some (.int .i64 K)/\v.cell? ⟨G,1,none⟩=some (.int .i64 P)) fun hJ=>?_;refine wpAnyH_take (i:=0) (v:=?_) A1 kR kR kR A2 (Or.inl ⟨rF,?_⟩) A3 ?_
    rotate_left 1
    ·(intro wS hSw;(try dsimp only at hSw);go_simp;try(with_reducible rfl))
    try simp only[Act.put,List.setIfInBounds_toArray,List.set_cons_zero,List.set_cons_succ]
    refine wpAnyH_take (i:=1) (v:=?_) A1 kR kR kR A2 (Or.inl ⟨rF,?_⟩) A3 ?_
    rotate_left 1
    ·(intro wS hSw;(try dsimp only at hSw);go_simp;try(with_reducible rfl))
    try simp only[Act.put,List.setIfInBounds_toArray,List.set_cons_zero,List.set_cons_succ]
    refine wpAnyH_take (i:=2) (v:=?_) A1 kR kR kR A2 (Or.inl ⟨rF,?_⟩) A3 ?_
    rotate_left 1
    ·(intro wS hSw;(try dsimp only at hSw);go_simp;try(with_reducible rfl))
    try simp only[Act.put,List.setIfInBounds_toArray,List.set_cons_zero,List.set_cons_succ]
    refine wpAnyH_take (i:=3) (v:=?_) A1 kR kR kR A2 (Or.inl ⟨rF,?_⟩) A3 ?_
    rotate_left 1
    ·(intro wS hSw;(try dsimp only at hSw);go_simp;try(with_reducible rfl))
    try simp only[Act.put,List.setIfInBounds_toArray,List.set_cons_zero,List.set_cons_succ]
    refine wpAnyH_take (i:=4) (v:=?_) A1 kR kR kR A2 (Or.inl ⟨rF,?_⟩) A3 ?_
    rotate_left 1
    ·(intro wS hSw;(try dsimp only at hSw);go_simp;try(with_reducible rfl))
    try simp only[Act.put,List.setIfInBounds_toArray,List.set_cons_zero,List.set_cons_succ]
    refine wpAnyH_take (i:=5) (v:=?_) A1 kR kR kR A2 (Or.inl ⟨rF,?_⟩) A3 ?_
    rotate_left 1
    ·(intro wS hSw;(try dsimp only at hSw);go_simp;try(with_reducible rfl))
    try simp only[Act.put,List.setIfInBounds_toArray,List.set_cons_zero,List.set_cons_succ]
    clear hJ;refine B5 6 fun K hK=>?_;go_simp;(go_at_call 63;refine(HK3.out _ ((HC0.below HF.bel).below (A5 _))).mono ?_;rintro e w3 ⟨rfl,hb3⟩;have HB3:=bel (A5 _) hb3;obtain⟨y0,y1,y2⟩:=HC1.out w3 HB3);try(go_wp2_with fail)
    refine B3 hK fun hJ=>?_;clear hK K;refine wpAnyH_take (i:=7) (v:=?_) A1 kR kR kR A2 (Or.inl ⟨rF,?_⟩) A3 ?_
    rotate_left 1
    ·(intro wS hSw;(try dsimp only at hSw);go_simp;try(with_reducible rfl))
    try simp only[Act.put,List.setIfInBounds_toArray,List.set_cons_zero,List.set_cons_succ]
    refine wpAnyH_done kR ?_ _;go_wp2;go_roundw
    case rel=>exact⟨HC.out w3 HB3,4,oM,by first|rfl|go_num,⟨fun _=>hp.1 oM,fun _=>hp.2.1 oM,fun _=>hp.2.2.1 oM,fun _=>fT⟩⟩
    case measure=>simp[intOf]
  .have r4:=hF.r4;obtain⟨rfl,rfl,rfl,rfl⟩:X0=true/\X1=true/\X2=true/\X3=true:=⟨hp.1 oM,hp.2.1 oM,hp.2.2.1 oM,hp.2.2.2 oM⟩
   clear hF hp;go_wp2_with(go_at_call 64;refine(HK4.out (HP.out rfl rfl) _ (HC0.below HF.bel) (HI0.below HF.bel)).mono ?_;rintro e w3 ⟨rfl,hb3⟩);go_ret;exact⟨Aa sM,(HC.out w3 hb3).bel⟩
theorem DF:(prog.info? 3).map (fun i=>(i.zero,i.size,i.bytes))=some (some (.int .i64 0),1,8):=kR
def BQ(l:List Int):List Value:=l.map fun x=>.int .i64 x
theorem C7(l:List Int)(x:Int):BQ (l++[x])=BQ l++[.int .i64 x]:=by simp[BQ]
theorem Bx{w:World}{B:Nat}{t:TypeId}{k:Nat}{v:Value}{n:Nat}{xs:List Value}(h:w.ownsRow B t k v n xs)(hn:0<n):
 ∃g cap,v=.slice (some ⟨g,0,none⟩) n cap/\B<=g/\g<w.heap.size/\n<=cap/\cap<=maxLen/\∀ (j:Nat) (u:Value),xs[j]? =some u->w.cell? ⟨g,j,none⟩=some u:=by
 obtain⟨hl,h⟩:=h;rcases h with⟨_,h0⟩|⟨g,cap,cur,hv,hB,hg,hc1,hc2,hsz,htk⟩
 .omega
 .refine⟨g,cap,hv,hB,?_,hc1,hc2,fun j u hu=>?_⟩
  .rcases Nat.lt_or_ge g w.heap.size with c|c
   .exact c
   .rw[Array.getElem?_eq_none c]at hg;cases hg
  .have hj:j<xs.length:=(List.getElem?_eq_some_iff.1 hu).1;rw[<-htk,List.getElem?_take_of_lt oM]at hu;simpa[World.cell?,hg]using hu
theorem Ac{w:World}{B:Nat}{t:TypeId}{k:Nat}{v:Value}{n:Nat}{xs:List Value}(h:w.ownsRow B t k v n xs):∃p cap,v=.slice p n cap:=by
 obtain⟨hl,h⟩:=h;rcases h with⟨rfl,rfl⟩|⟨g,cap,cur,hv,-⟩
 .exact⟨none,0,rfl⟩
 .exact⟨_,_,hv⟩
theorem Ab{w w':World}{B:Nat}{t:TypeId}{k:Nat}{v:Value}{n:Nat}{xs:List Value}(h:w.ownsRow B t k v n xs)(hb:∀g,v.ownBlock=some g->w'.heap[g]? =w.heap[g]?):w'.ownsRow B t k v n xs:=by
 refine⟨h.1,?_⟩;rcases h.2 with h5|⟨g,cap,cur,hv,hB,hg,hr⟩
 .exact .inl h5
 .exact .inr ⟨g,cap,cur,hv,hB,(hb g (by rw[hv];rfl)).trans hg,hr⟩
theorem An{w w':World}{B:Nat}{t:TypeId}{k:Nat}{v:Value}{n:Nat}{xs:List Value}(h:w.ownsRow B t k v n xs)(q:Below w.heap.size w w'):w'.ownsRow B t k v n xs:=Ab h fun g hg=>q.block g (h.lt g hg).2
theorem Bw{w:World}{B B':Nat}{t:TypeId}{k:Nat}{v:Value}{n:Nat}{xs:List Value}(h:w.ownsRow B t k v n xs)(hB:B'<=B):w.ownsRow B' t k v n xs:=
 ⟨h.1,h.2.imp id fun⟨g,cap,cur,h1,h2,h3⟩=>⟨g,cap,cur,h1,gH hB h2,h3⟩⟩
def Cn(L x:Int):List Int:=if L=0 then [] else [x]
theorem DJ(i:Au)(r:Rw):AV i r=(Cn r.a i.a++Cn r.b i.b)++Cn r.c i.c:=by unfold AV Cn;simp
theorem Ee(L x:Int):(Cn L x).length<=1:=by unfold Cn;split<;>simp
structure H6(w:World)(G C:Nat)(L1 L2 L3 A B E:Int)(v:World):Prop where
 bel:Below w.heap.size w v
 hC:w.heap.size<C
 hG:G<C
 le:C<=v.heap.size
 r1:v.cell? ⟨w.heap.size,1,none⟩=some (.int .i64 L1)
 r2:v.cell? ⟨w.heap.size,2,none⟩=some (.int .i64 L2)
 r3:v.cell? ⟨w.heap.size,3,none⟩=some (.int .i64 L3)
 g1:v.cell? ⟨G,1,none⟩=some (.int .i64 A)
 g2:v.cell? ⟨G,2,none⟩=some (.int .i64 B)
 g3:v.cell? ⟨G,3,none⟩=some (.int .i64 E)
theorem H6.next{w:World}{G C:Nat}{L1 L2 L3 A B E:Int}{v v':World}(h:H6 w G C L1 L2 L3 A B E v)(k:Below C v v'):H6 w G C L1 L2 L3 A B E v':=by
 have c1:∀ {a:Addr} {u:Value},a.block<C->v.cell? a=some u->v'.cell? a=some u:=fun ha hu=>(k.cell ha).trans hu;exact⟨h.bel.trans (k.mono (Nat.le_of_lt h.hC)),h.hC,h.hG,gH h.le k.size,c1 h.hC h.r1,c1 h.hC h.r2,c1 h.hC h.r3,c1 h.hG h.g1,c1 h.hG h.g2,c1 h.hG h.g3⟩
theorem Eg(b o:Nat)(i:Au)(r:Rw)(w:World)(hi:A8 w b o (B9 i)):
 Calls prog 45 #[AW r,.pointer (some ⟨b,o,none⟩)] w fun e w'=>∃v,e=.returned v/\w'.ownsRow w.heap.size 3 1 v (AV i r).length (BQ (AV i r))/\Below w.heap.size w w':=by
 rw[DJ];have KR:=fun w k=>Bp b o i w k;have HI0:Hid (A8 w b o (B9 i)):=hi;obtain⟨i0,hi0,hz0,hz1,hz3⟩:=info_parts DF;obtain⟨L0,L1,L2,L3,L4⟩:=r;obtain⟨io,D,A,B,E,n,bt⟩:=i;unfold AW;simp only at KR |-;have HKR:Hid (∀w,A8 w b o (B9 ⟨io,D,A,B,E,n,bt⟩)->Calls prog 62 #[.pointer (some ⟨b,o,none⟩)] w fun e w'=>e=.returned (.agg #[.int .i64 D,.int .i64 A,.int .i64 B,.int .i64 E])/\Below w.heap.size w w'):=KR;clear KR hi;obtain⟨R,hR⟩:=gA ((Cn L1 A++Cn L2 B)++Cn L3 E)
 rw[hR];have HR:Hid ((Cn L1 A++Cn L2 B)++Cn L3 E=R):=hR;clear hR;go_enter func45,ntmps45;go_wp2_with(go_at_call 62;refine(HKR.out _ (HI0.below (A0 _ _))).mono ?_;rintro e w1 ⟨rfl,hb1⟩);have HF1:Hid (H6 w w1.heap.size (w1.heap.size+1) L1 L2 L3 A B E (w1.alloc (.cells #[.int .i64 D,.int .i64 A,.int .i64 B,.int .i64 E] 109))):=by
  have hs:=hb1.size;simp at hs;exact⟨bel (bel (A0 _ _) hb1) (A0 _ _),oM,oM,sM,kc (A0 _ _) (kc hb1 sG),kc (A0 _ _) (kc hb1 sG),kc (A0 _ _) (kc hb1 sG),sG,sG,sG⟩
 obtain⟨G,hG⟩:=gA (w1.heap.size)
 obtain⟨W,hW⟩:=gA (w1.alloc (.cells #[.int .i64 D,.int .i64 A,.int .i64 B,.int .i64 E] 109))
 rw[hW]at HF1 |-;rw[hG]at HF1 |-;clear hG hW
 go_loopw [5,7] (fun lv iv wr=>H6 w G (G+1) L1 L2 L3 A B E wr/\∃ (j:Nat) (l:List Int),1<=j/\j<=4/\iv=.int .i64 j/\l.length<=j-1/\Hid (wr.ownsRow (G+1) 3 1 lv l.length (BQ l))/\Hid ((j=1->l=[])/\(j=2->l=Cn L1 A)/\(j=3->l=Cn L1 A++Cn L2 B)/\(j=4->l=(Cn L1 A++Cn L2 B)++Cn L3 E))) (fun _ iv _=>4-(intOf iv).toNat)
 case atStart=>exact⟨HF1.out,1,[],oM,oM,rfl,sM,World.ownsRow_nil _ _ _ 1,⟨fun _=>rfl,fun h=>absurd h oM,fun h=>absurd h oM,fun h=>absurd h oM⟩⟩
 case round=>
  clear HF1 HKR hb1;obtain⟨hF,j,l,hj1,hj,rfl,hll,HO,HL⟩:=hrel;have HF:Hid (H6 w G (G+1) L1 L2 L3 A B E wr):=hF;have hGw:=hF.le;have hn1:G≠wr.heap.size:=oM;have hn2:w.heap.size≠wr.heap.size:=by have:=hF.hC;omega
  obtain rfl|rfl|rfl|rfl:j=1\/j=2\/j=3\/j=4:=oM
  .have r0:=hF.r1;have g0:=hF.g1;have f0:=kc (A0 wr (.cells #[.int .i64 A] 3)) g0;have hl0:=HL.1 rfl;clear hF;by_cases hz:L1=0
   .have hz':(L1 != 0)=false:=by simpa using hz
    have hz2:(L1==0)=true:=by simpa using hz
    have HZ:Hid (L1=0):=hz;clear hz;go_wp2;go_roundw
    case rel=>exact⟨HF.out,2,l,oM,oM,by first|rfl|go_num,oM,HO,⟨fun h=>absurd h oM,fun _=>by rw[hl0];unfold Cn;simp[HZ.out],fun h=>absurd h oM,fun h=>absurd h oM⟩⟩
    case measure=>simp[intOf]
   .have hz':(L1 != 0)=true:=by simpa using hz
    have hz2:(L1==0)=false:=by simpa using hz
    have HZ:Hid (¬L1=0):=hz;clear hz;go_wp2_with(first
     |(at_builtin;refine wpList_append_own_at _ rfl _ _ 68 rfl (G+1) 3 i0 _ 1 8 underlying68 hi0 hz0 hz1 hz3 rfl dE _ l.length (BQ l) rfl (World.ownsRow.alloc HO.out _) ⟨wr.heap.size,0,none⟩ 1 1 [.int .i64 A] rfl rfl (World.news_of_block (cs:=#[.int .i64 A]) (t:=3) (fr:=(0,0)) (heap_alloc_new wr _)) Ht mL oM sO ?_;intro v' w3 hown3 hgrow hnil hat;have HO3:Hid (w3.ownsRow (G+1) 3 1 v' (l.length+1) (BQ l++[.int .i64 A])):=hown3;have HB3:Hid (Below (G+1) wr w3):=(Below.alloc (Below.refl _ _) hGw _).grown hgrow sO (fun q e=>(HO.lt q e).1);clear hown3 hgrow hnil hat))
    go_roundw
    case rel=>exact⟨HF.next HB3.out,2,l++[A],oM,oM,by first|rfl|go_num,sO,by show _;rw[List.length_append,C7];exact HO3.out,⟨fun h=>absurd h oM,fun _=>by rw[hl0,show Cn L1 A=[A]from if_neg HZ.out];try rfl,fun h=>absurd h oM,fun h=>absurd h oM⟩⟩
    case measure=>simp[intOf]
  .have r0:=hF.r2;have g0:=hF.g2;have f0:=kc (A0 wr (.cells #[.int .i64 B] 3)) g0;have hl0:=HL.2.1 rfl;clear hF;by_cases hz:L2=0
   .have hz':(L2 != 0)=false:=by simpa using hz
    have hz2:(L2==0)=true:=by simpa using hz
    have HZ:Hid (L2=0):=hz;clear hz;go_wp2;go_roundw
    case rel=>exact⟨HF.out,3,l,oM,oM,by first|rfl|go_num,oM,HO,⟨fun h=>absurd h oM,fun h=>absurd h oM,fun _=>by rw[hl0];unfold Cn;simp[HZ.out],fun h=>absurd h oM⟩⟩
    case measure=>simp[intOf]
   .have hz':(L2 != 0)=true:=by simpa using hz
    have hz2:(L2==0)=false:=by simpa using hz
    have HZ:Hid (¬L2=0):=hz;clear hz;go_wp2_with(first
     |(at_builtin;refine wpList_append_own_at _ rfl _ _ 68 rfl (G+1) 3 i0 _ 1 8 underlying68 hi0 hz0 hz1 hz3 rfl dE _ l.length (BQ l) rfl (World.ownsRow.alloc HO.out _) ⟨wr.heap.size,0,none⟩ 1 1 [.int .i64 B] rfl rfl (World.news_of_block (cs:=#[.int .i64 B]) (t:=3) (fr:=(0,0)) (heap_alloc_new wr _)) Ht mL oM sO ?_;intro v' w3 hown3 hgrow hnil hat;have HO3:Hid (w3.ownsRow (G+1) 3 1 v' (l.length+1) (BQ l++[.int .i64 B])):=hown3;have HB3:Hid (Below (G+1) wr w3):=(Below.alloc (Below.refl _ _) hGw _).grown hgrow sO (fun q e=>(HO.lt q e).1);clear hown3 hgrow hnil hat))
    go_roundw
    case rel=>exact⟨HF.next HB3.out,3,l++[B],oM,oM,by first|rfl|go_num,sO,by show _;rw[List.length_append,C7];exact HO3.out,⟨fun h=>absurd h oM,fun h=>absurd h oM,fun _=>by rw[hl0,show Cn L2 B=[B]from if_neg HZ.out];try rfl,fun h=>absurd h oM⟩⟩
    case measure=>simp[intOf]
  .have r0:=hF.r3;have g0:=hF.g3;have f0:=kc (A0 wr (.cells #[.int .i64 E] 3)) g0;have hl0:=HL.2.2.1 rfl;clear hF;by_cases hz:L3=0
   .have hz':(L3 != 0)=false:=by simpa using hz
    have hz2:(L3==0)=true:=by simpa using hz
    have HZ:Hid (L3=0):=hz;clear hz;go_wp2;go_roundw
    case rel=>exact⟨HF.out,4,l,oM,oM,by first|rfl|go_num,oM,HO,⟨fun h=>absurd h oM,fun h=>absurd h oM,fun h=>absurd h oM,fun _=>by rw[hl0];unfold Cn;simp[HZ.out]⟩⟩
    case measure=>simp[intOf]
   .have hz':(L3 != 0)=true:=by simpa using hz
    have hz2:(L3==0)=false:=by simpa using hz
    have HZ:Hid (¬L3=0):=hz;clear hz;go_wp2_with(first
     |(at_builtin;refine wpList_append_own_at _ rfl _ _ 68 rfl (G+1) 3 i0 _ 1 8 underlying68 hi0 hz0 hz1 hz3 rfl dE _ l.length (BQ l) rfl (World.ownsRow.alloc HO.out _) ⟨wr.heap.size,0,none⟩ 1 1 [.int .i64 E] rfl rfl (World.news_of_block (cs:=#[.int .i64 E]) (t:=3) (fr:=(0,0)) (heap_alloc_new wr _)) Ht mL oM sO ?_;intro v' w3 hown3 hgrow hnil hat;have HO3:Hid (w3.ownsRow (G+1) 3 1 v' (l.length+1) (BQ l++[.int .i64 E])):=hown3;have HB3:Hid (Below (G+1) wr w3):=(Below.alloc (Below.refl _ _) hGw _).grown hgrow sO (fun q e=>(HO.lt q e).1);clear hown3 hgrow hnil hat))
    go_roundw
    case rel=>exact⟨HF.next HB3.out,4,l++[E],oM,oM,by first|rfl|go_num,sO,by show _;rw[List.length_append,C7];exact HO3.out,⟨fun h=>absurd h oM,fun h=>absurd h oM,fun h=>absurd h oM,fun _=>by rw[hl0,show Cn L3 E=[E]from if_neg HZ.out];try rfl⟩⟩
    case measure=>simp[intOf]
  .have hl0:=HL.2.2.2 rfl;clear hF;go_wp2;go_ret;refine⟨_,rfl,?_,HF.bel⟩;rw[<-HR.out,<-hl0];exact Bw HO.out (by have:=HF.hC;omega)
def GO(b:Bk):List Value:=[.bool b.loop,.int .i64 b.par,.int .i64 b.ahead]
def AC(l:List Bk):List Value:=l.flatMap GO
theorem Bv(l:List Bk)(b:Bk):AC (l++[b])=AC l++GO b:=by simp[AC]
theorem B1:∀l:List Bk,(AC l).length=l.length*3
 |[]=>rfl
 |b::l=>by
  have e:AC (b::l)=GO b++AC l:=by simp[AC]
  rw[e,List.length_append,B1 l];simp[GO];omega
theorem Bu(l:List Bk)(b:Bk)(j:Nat){u:Value}(h:(GO b)[j]? =some u):(AC (l++[b]))[l.length*3+j]? =some u:=by
 rw[Bv,List.getElem?_append_right (by rw[B1];omega),B1,Nat.add_sub_cancel_left];exact h
def BK(l:List Nat):List Value:=l.map fun(x:Nat)=>Value.int .i64 (x:Int)
theorem EY(l:List Nat)(x:Nat):BK (l++[x])=BK l++[.int .i64 (x:Int)]:=by simp[BK]
theorem EZ(l:List Nat)(n:Nat):(BK l).take n=BK (l.take n):=by simp[BK,List.map_take]
def Hh(C gi n:Nat)(vs vo:Value)(j:Nat):Value:=if j=0 then .pointer (some ⟨C,0,none⟩)else if j=1 then .slice (some ⟨gi,0,none⟩) n n else if j=2 then vs else vo
structure WS(E G C n gi:Nat)(vs vo:Value)(w:World)(s:Wk):Prop where
 g:w.rowIs G 71 4 (Hh C gi n vs vo)
 i:w.rowIs gi 4 n (fun j=>.bool (decide (j∈s.set)))
 set:w.ownsRow E 3 1 vs s.set.length (BK s.set)
 opn:w.ownsRow E 114 3 vo s.opens.length (AC s.opens.reverse)
 hG:E<=G
 hgi:E<=gi
 n1:gi≠G
 n2:vs.ownBlock≠some G
 n3:vs.ownBlock≠some gi
 n4:vo.ownBlock≠some G
 n5:vo.ownBlock≠some gi
 n6:∀b,vs.ownBlock=some b->vo.ownBlock≠some b
section
variable {E G C n gi : Nat} {vs vo : Value} {w w' : World} {s : Wk}
theorem WS.below(h:WS E G C n gi vs vo w s)(k:Below w.heap.size w w'):WS E G C n gi vs vo w' s:=
 ⟨h.g.of_block (k.block _ h.g.lt),h.i.of_block (k.block _ h.i.lt),An h.set k,An h.opn k,h.hG,h.hgi,h.n1,h.n2,h.n3,h.n4,h.n5,h.n6⟩
theorem WS.c0(h:WS E G C n gi vs vo w s):w.cell? ⟨G,0,none⟩=some (.pointer (some ⟨C,0,none⟩)):=h.g.cell (i:=0) dE
theorem WS.c1(h:WS E G C n gi vs vo w s):w.cell? ⟨G,1,none⟩=some (.slice (some ⟨gi,0,none⟩) n n):=h.g.cell (i:=1) dE
theorem WS.c2(h:WS E G C n gi vs vo w s):w.cell? ⟨G,2,none⟩=some vs:=h.g.cell (i:=2) dE
theorem WS.c3(h:WS E G C n gi vs vo w s):w.cell? ⟨G,3,none⟩=some vo:=h.g.cell (i:=3) dE
theorem WS.lt(h:WS E G C n gi vs vo w s):E<=w.heap.size:=gH h.hG (Nat.le_of_lt h.g.lt)
end
theorem CZ(E G C n gi:Nat)(vs vo:Value)(s:Wk)(w:World)(h:WS E G C n gi vs vo w s)(hn:s.opens.length<=64):
 Calls prog 65 #[.pointer (some ⟨G,0,none⟩)] w fun e w'=>(∃A:Int,e=.returned (.tuple #[.agg #[.bool (inLoop s),.int .i64 (AT s),.int .i64 A],.bool (!s.opens.isEmpty)]))/\Below w.heap.size w w':=by
 have c3:=h.c3;have ho:=h.opn;have hG:=h.g.lt;have nG:G≠w.heap.size:=oM;obtain⟨X,O⟩:=s;cases O with
 |nil=>
  obtain⟨p,q,rfl⟩:=Ac ho;unfold inLoop AT;simp only[List.isEmpty_nil,Bool.not_true]at c3 |-;have f3:(w.alloc (.cells #[.bool false,.int .i64 0,.int .i64 0] 114)).cell? ⟨G,3,none⟩=some (.slice p 0 q):=kc (A0 _ _) c3;clear ho h;go_enter func65,ntmps65;go_wp2;refine bodyPost_ret (by simp[results,results65,go_sem];try rfl) rfl ?_;exact⟨⟨0,rfl⟩,gG⟩
 |cons b r=>
  obtain⟨g,cap,rfl,hE,hg,hc1,hc2,hcl⟩:=Bx ho sM;unfold inLoop AT;simp only[List.isEmpty_cons,Bool.not_false]at c3 |-;obtain⟨L,P,A⟩:=b;simp only[List.reverse_cons]at hcl;have hl:r.reverse.length=r.length:=List.length_reverse;have x0:=hcl (r.length*3) (.bool L) Ij;have x1:=hcl (r.length*3+1) (.int .i64 P) Ii;have x2:=hcl (r.length*3+2) (.int .i64 A) Ih;simp only[List.length_cons]at c3 hn hc1;obtain⟨m,hm⟩:=gA (r.length)
  rw[hm]at x0 x1 x2 c3 hn hc1;obtain⟨N,hN⟩:=gA (m+1)
  rw[hN]at c3 hn hc1;have hw:IntKind.i64.wrap ((N:Int)-1)=(m:Int):=by rw[IntKind.wrap_i64];omega
  have h0:((N:Int)==0)=false:=by have:(N:Int)≠0:=oM;simpa using this
  have h0':(N==0)=false:=by have:N≠0:=oM;simpa using this
  have i1:(0:Int)<=(m:Int):=oM;have i2:(m:Int)<(N:Int):=oM;have ng:g≠w.heap.size:=oM;have f3:(w.alloc (.cells #[.bool false,.int .i64 0,.int .i64 0] 114)).cell? ⟨G,3,none⟩=some (.slice (some ⟨g,0,none⟩) N cap):=kc (A0 _ _) c3;have y0:(w.alloc (.cells #[.bool false,.int .i64 0,.int .i64 0] 114)).cell? ⟨g,m*3,none⟩=some (.bool L):=kc (A0 _ _) x0;have y1:(w.alloc (.cells #[.bool false,.int .i64 0,.int .i64 0] 114)).cell? ⟨g,m*3+1,none⟩=some (.int .i64 P):=kc (A0 _ _) x1;have y2:(w.alloc (.cells #[.bool false,.int .i64 0,.int .i64 0] 114)).cell? ⟨g,m*3+2,none⟩=some (.int .i64 (A:Int)):=kc (A0 _ _) x2;have HN:Hid (m+1=N):=hN;clear hcl ho h hm hl hN hE;go_enter func65,ntmps65;go_wp2;refine rG (fun v=>v.cell? ⟨G,3,none⟩=some (.slice (some ⟨g,0,none⟩) N cap)/\v.cell? ⟨g,m*3,none⟩=some (.bool L)/\v.cell? ⟨g,m*3+1,none⟩=some (.int .i64 P)/\v.cell? ⟨g,m*3+2,none⟩=some (.int .i64 (A:Int))) fun hJ=>?_;refine wpAnyH_take (i:=0) (v:=?_) A1 kR kR kR A2 (Or.inl ⟨rF,?_⟩) A3 ?_
  rotate_left 1
  ·(intro wS hSw;(try dsimp only at hSw);go_simp;try(with_reducible rfl))
  try simp only[Act.put,List.setIfInBounds_toArray,List.set_cons_zero,List.set_cons_succ]
  refine wpAnyH_take (i:=1) (v:=?_) A1 kR kR kR A2 (Or.inl ⟨rF,?_⟩) A3 ?_
  rotate_left 1
  ·(intro wS hSw;(try dsimp only at hSw);go_simp;try(with_reducible rfl))
  try simp only[Act.put,List.setIfInBounds_toArray,List.set_cons_zero,List.set_cons_succ]
  refine wpAnyH_take (i:=2) (v:=?_) A1 kR kR kR A2 (Or.inl ⟨rF,?_⟩) A3 ?_
  rotate_left 1
  ·(intro wS hSw;(try dsimp only at hSw);go_simp;try(with_reducible rfl))
  try simp only[Act.put,List.setIfInBounds_toArray,List.set_cons_zero,List.set_cons_succ]
  refine wpAnyH_take (i:=3) (v:=?_) A1 kR kR kR A2 (Or.inl ⟨rF,?_⟩) A3 ?_
  rotate_left 1
  ·(intro wS hSw;(try dsimp only at hSw);go_simp;try(with_reducible rfl))
  try simp only[Act.put,List.setIfInBounds_toArray,List.set_cons_zero,List.set_cons_succ]
  refine wpAnyH_take (i:=4) (v:=?_) A1 kR kR kR A2 (Or.inl ⟨rF,?_⟩) A3 ?_
  rotate_left 1
  ·(intro wS hSw;(try dsimp only at hSw);go_simp;try(with_reducible rfl))
  try simp only[Act.put,List.setIfInBounds_toArray,List.set_cons_zero,List.set_cons_succ]
  refine wpAnyH_take (i:=5) (v:=?_) A1 kR kR kR A2 (Or.inl ⟨rF,?_⟩) A3 ?_
  rotate_left 1
  ·(intro wS hSw;(try dsimp only at hSw);go_simp;try(with_reducible rfl))
  try simp only[Act.put,List.setIfInBounds_toArray,List.set_cons_zero,List.set_cons_succ]
  refine wpAnyH_take (i:=6) (v:=?_) A1 kR kR kR A2 (Or.inl ⟨rF,?_⟩) A3 ?_
  rotate_left 1
  ·(intro wS hSw;(try dsimp only at hSw);go_simp;try(with_reducible rfl))
  try simp only[Act.put,List.setIfInBounds_toArray,List.set_cons_zero,List.set_cons_succ]
  refine wpAnyH_take (i:=7) (v:=?_) A1 kR kR kR A2 (Or.inl ⟨rF,?_⟩) A3 ?_
  rotate_left 1
  ·(intro wS hSw;(try dsimp only at hSw);go_simp;try(with_reducible rfl))
  try simp only[Act.put,List.setIfInBounds_toArray,List.set_cons_zero,List.set_cons_succ]
  refine wpAnyH_take (i:=8) (v:=?_) A1 kR kR kR A2 (Or.inl ⟨rF,?_⟩) A3 ?_
  rotate_left 1
  ·(intro wS hSw;(try dsimp only at hSw);go_simp;try(with_reducible rfl))
  try simp only[Act.put,List.setIfInBounds_toArray,List.set_cons_zero,List.set_cons_succ]
  refine wpAnyH_take (i:=9) (v:=?_) A1 kR kR kR A2 (Or.inl ⟨rF,?_⟩) A3 ?_
  rotate_left 1
  ·(intro wS hSw;(try dsimp only at hSw);go_simp;try(with_reducible rfl))
  try simp only[Act.put,List.setIfInBounds_toArray,List.set_cons_zero,List.set_cons_succ]
  refine wpAnyH_take (i:=10) (v:=?_) A1 kR kR kR A2 (Or.inl ⟨rF,?_⟩) A3 ?_
  rotate_left 1
  ·(intro wS hSw;(try dsimp only at hSw);go_simp;try(with_reducible rfl))
  try simp only[Act.put,List.setIfInBounds_toArray,List.set_cons_zero,List.set_cons_succ]
  refine wpAnyH_take (i:=11) (v:=?_) A1 kR kR kR A2 (Or.inl ⟨rF,?_⟩) A3 ?_
  rotate_left 1
  ·(intro wS hSw;(try dsimp only at hSw);go_simp;try(with_reducible rfl))
  try simp only[Act.put,List.setIfInBounds_toArray,List.set_cons_zero,List.set_cons_succ]
  clear hJ;refine B5 12 fun K hK=>?_;go_simp;refine B3 hK fun hJ=>?_;clear hK K;refine wpAnyH_take (i:=13) (v:=?_) A1 kR kR kR A2 (Or.inl ⟨rF,?_⟩) A3 ?_
  rotate_left 1
  ·(intro wS hSw;(try dsimp only at hSw);go_simp;try(with_reducible rfl))
  try simp only[Act.put,List.setIfInBounds_toArray,List.set_cons_zero,List.set_cons_succ]
  refine wpAnyH_done kR ?_ _;go_wp2;refine bodyPost_ret (by simp[results,results65,go_sem];try rfl) rfl ?_;exact⟨⟨_,rfl⟩,gG⟩
theorem Bo(op:Int)(w:World):Calls prog 31 #[.int .i64 op] w fun e w'=>e=.returned (.bool (Aw op))/\w'=w:=by
 unfold Aw;by_cases h:3<=op
 all_goals
  go_enter func31,ntmps31;go_wp2;go_ret;exact⟨Aa (by simp[h];try omega),rfl⟩
theorem Eb(op:Int)(w:World):Calls prog 66 #[.int .i64 op] w fun e w'=>e=.returned (.bool (AY op))/\w'=w:=by
 have HK:Hid (∀w,Calls prog 31 #[.int .i64 op] w fun e w'=>e=.returned (.bool (Aw op))/\w'=w):=Bo op;by_cases h:29<=op/\op<=33
 .have hl:AY op=true:=by unfold AY;simp;omega
  rw[hl];obtain rfl|rfl|rfl|rfl|rfl:op=29\/op=30\/op=31\/op=32\/op=33:=oM
  all_goals
   clear h hl HK;go_enter func66,ntmps66;go_wp2;go_ret;exact⟨rfl,rfl⟩
 .have hl:AY op=Aw op:=by
   unfold AY;have:(decide (29<=op)&&decide (op<=33))=false:=sO;rw[this];rfl
  rw[hl];have e1:(op==29)=false:=by have:op≠29:=oM;simpa using this
  have e2:(op==30)=false:=by have:op≠30:=oM;simpa using this
  have e3:(op==31)=false:=by have:op≠31:=oM;simpa using this
  have e4:(op==32)=false:=by have:op≠32:=oM;simpa using this
  have e5:(op==33)=false:=by have:op≠33:=oM;simpa using this
  clear h hl;go_enter func66,ntmps66;go_wp2_with(go_at_call 31;refine(HK.out _).mono ?_;rintro e w1 ⟨rfl,rfl⟩);go_ret;exact⟨rfl,rfl⟩
theorem CC(s:ByteArray):(s.toList==[])=(s.size==0):=by
 rw[Bool.eq_iff_iff];simp only[beq_iff_eq];constructor
 .intro h;rw[ByteArray.toList_eq]at h;show s.data.size=0;rw[<-Array.length_toList,h];rfl
 .intro h;rw[ByteArray.toList_eq];exact List.eq_nil_of_length_eq_zero (by rw[Array.length_toList];exact h)
theorem BR(s:ByteArray):s.toList.isEmpty=(s.size==0):=by
 rw[<-CC,Bool.eq_iff_iff];simp
theorem EQ{s:ByteArray}{j:Nat}(h:j<s.size)(hq:ET (s[j].toNat:Int)=false):AI s=false:=by
 unfold AI;have:((bs s).all fun b=>ET (nb b))=false:=by
  rw[List.all_eq_false];exact⟨s[j],by unfold bs;exact Array.mem_toList_iff.2 (Array.getElem_mem (xs:=s.data) h),by simp[nb,hq]⟩
 rw[this,Bool.and_false]
theorem Ec{s:ByteArray}(h0:s.size≠0)(h1:s.size<=64)(h:∀j (h:j<s.size),ET (s[j].toNat:Int)=true):AI s=true:=by
 unfold AI;have:((bs s).all fun b=>ET (nb b))=true:=by
  rw[List.all_eq_true];intro b hb;obtain⟨j,hj,rfl⟩:=List.mem_iff_getElem.1 hb;exact h j (by rw[<-EF];exact hj)
 rw[this];simp[h0,h1]
theorem Fe(p:AF):AZ p=((AI p.name&&(p.kind==1||p.kind==2))&&(decide (1<=p.len)&&decide (p.len<=4096))):=rfl

theorem E9:(prog.info? 63).map (fun i=>(i.zero,i.size,i.bytes))=some (some (.agg #[.string ⟨#[]⟩,.int .i64 0,.int .i64 0]),3,32):=kR




end Go.Proofs.Ytheanilpbnencaa
