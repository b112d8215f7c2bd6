import Derived.WalkKit
import Derived.WalkSpells
import Derived.Test.YtheanilpbnencaaCos1
import Derived.Below
namespace Go.Proofs.Ytheanilpbnencaa
open Go.RowKit Go.Proofs.Try
set_option linter.all false
set_option maxRecDepth 100000
set_option maxHeartbeats 16000000
theorem Ew(a:Int)(k:Nat)(hk:k<32)(h0:0<=a)(h1:a<4294967296):bits .and .u32 a ((2^k-1:Nat):Int)=a%((2^k:Nat):Int):=by
 have hp:2^k<2^32:=Nat.pow_lt_pow_right oM hk;have hq:0<2^k:=Nat.two_pow_pos k;obtain⟨n,rfl⟩:=Int.eq_ofNat_of_zero_le h0;rw[u32_and _ _ h0 h1 oM oM,Int.toNat_natCast,Int.toNat_natCast,Nat.and_two_pow_sub_one_eq_mod];rfl
theorem JQ(a:Int)(h0:0<=a)(h1:a<4294967296):bits .and .u32 a 8388607=a%8388608:=Ew a 23 oM h0 h1
theorem Kv(a:Int)(h0:0<=a)(h1:a<4294967296):bits .and .u32 a 255=a%256:=Ew a 8 oM h0 h1
theorem Hi(a:Int)(h0:0<=a)(h1:a<4294967296):bits .and .u32 a 2147483648=if 2147483648<=a then 2147483648 else 0:=by
 rw[u32_and a _ h0 h1 oM oM,show(2147483648:Int).toNat=2^31 from rfl,nat_bit];split<;>omega
theorem Ex(a:Int)(h0:0<=a)(h1:a<4294967296):(bits .and .u32 a 2147483648 != 0)=decide (2147483648<=a):=by
 rw[Hi a h0 h1];split<;>simp[*]
def F3(a:Int):Int:=
 if a/8388608%256=255 then(if a%8388608=0 then 4 else 5)else if a/8388608%256=0 then(if a%8388608=0 then 1 else 2)else 3
def Ft(a:Int):Bool:=decide (2139095040<a%2147483648)
theorem Jc(a:Int):Ft a=true↔2139095040<a%2147483648:=by unfold Ft;simp
theorem Jd(a:Int):Ft a=false↔a%2147483648<=2139095040:=by unfold Ft;simp
theorem J2(a:Int)(h:Ft a=true)(h0:0<=a)(h1:a<4294967296):F3 a=5:=by
 rw[Jc]at h;unfold F3;rw[if_pos oM,if_neg oM]
theorem J3(a:Int)(h:Ft a=false)(h0:0<=a)(h1:a<4294967296):F3 a≠5:=by
 rw[Jd]at h;unfold F3;repeat' split
 all_goals omega
def CG(a:Int):Int:=if 2147483648<=a then -1-(a-2147483648)else a
def Kz(k:Int):Int:=if k<0 then 2147483648+(-1-k)else k
def Bw(a:Int):Int:=if Ft a then 2143289344 else a
def next(a:Int):Int:=if Ft a then 2143289344 else if a=2139095040 then a else Kz (CG a+1)
def mk(m:Bool)(e f:Int):Int:=if m then e*8388608+f+2147483648 else e*8388608+f
structure Ty where
 kind:Int
 par:Int
 deriving DecidableEq
structure Sl where
 ty:Ty
 keep:Bool
 bits:Int
 int_:Int
 deriving DecidableEq
structure Ay where
 op:Int
 d:Int
 a:Int
 b:Int
 c:Int
 n:Int
 bits:Int
 deriving DecidableEq
structure Cd where
 sign:List AX
 regs:List Ty
 slots:List Sl
 list:List Ay
structure Rw where
 d:Int
 a:Int
 b:Int
 c:Int
 n:Int
 deriving DecidableEq
def Ad(op:Int):Rw:=
 if op=1 then⟨1,0,0,0,7⟩
 else if op=2 then⟨2,0,0,0,8⟩
 else if op=3 then⟨6,5,0,0,0⟩
 else if 4<=op/\op<=10 then⟨4,5,5,0,0⟩
 else if 11<=op/\op<=14 then⟨4,5,0,0,0⟩
 else if op=15 then⟨4,5,5,5,0⟩
 else if op=16 then⟨1,1,2,0,0⟩
 else if op=17 then⟨1,2,0,0,0⟩
 else if op=18 then⟨2,1,0,0,0⟩
 else if 19<=op/\op<=20 then⟨1,3,0,0,0⟩
 else if op=21\/op=25 then⟨2,2,0,0,0⟩
 else if op=26 then⟨2,2,2,2,0⟩
 else if 22<=op/\op<=28 then⟨2,2,2,0,0⟩
 else if 29<=op/\op<=30 then⟨3,0,0,0,9⟩
 else if op=31 then⟨0,3,0,0,9⟩
 else if op=32 then⟨6,0,0,0,10⟩
 else if op=33 then⟨0,6,0,0,10⟩
 else if op=34 then⟨0,2,0,0,0⟩
 else if op=36 then⟨0,0,0,0,11⟩
 else⟨0,0,0,0,0⟩
def Aq(op:Int):Bool:=decide (1<=op)&&decide (op<=37)
def Aw(op:Int):Bool:=decide (3<=op)&&decide (op<=15)
def B2(op:Int):Bool:=(decide (29<=op)&&decide (op<=33))||Aw op
def Ae(n:Int)(k:Nat):Bool:=decide (0<=n)&&decide (n<(k:Int))
def BC(n:Int):Bool:=decide (0<=n)&&decide (n<=2147483647)
def B1(a:Int):Bool:=decide ((if Ft a then 2143289344 else a)=a)
def An(t:Ty)(n:Nat):Bool:=if t.kind=1\/t.kind=2 then t.par==0 else if t.kind=3 then Ae t.par n else false
def D6(s:Sl):Bool:=if s.ty.kind=2 then s.bits==0&&BC s.int_ else s.int_==0&&B1 s.bits
def AE(s:Sl)(n:Nat):Bool:=An s.ty n&&D6 s
def Ak(l:List Ty)(n:Int):Ty:=if Ae n l.length then(l[n.toNat]?).getD ⟨0,0⟩else⟨0,0⟩
def EH(i:Ay)(r:Rw):Int:=if r.d=0 then i.a else i.d
def Ao(l:List Ty)(i:Ay)(r:Rw):Ty:=Ak l (EH i r)
def Cg(l:Int)(t m:Ty):Bool:=
 if l=1 then t.kind==1
 else if l=2 then t.kind==2
 else if l=3 then t.kind==3
 else if l=4 then t.kind==1||t.kind==3
 else if l=5 then decide (t=m)||(t.kind==1&&m.kind==3)
 else decide (t=m)
def Ab(rs:List Ty)(l n:Int)(m:Ty):Bool:=if l=0 then n==0 else Ae n rs.length&&Cg l (Ak rs n) m
def BH(ps:List AX)(n:Int):Int:=((ps[n.toNat]?).map fun p=>p.kind).getD 0
def Cm(ss:List Sl)(n:Int):Ty:=((ss[n.toNat]?).map fun s=>s.ty).getD ⟨0,0⟩
def ED(c:Cd)(n l:Int)(m:Ty):Bool:=
 if l=8 then BC n
 else if l=9 then n==0||(n==1&&BH c.sign m.par==2)
 else if l=10 then Ae n c.slots.length&&decide (Cm c.slots n=m)
 else if l=11 then Ae n c.sign.length
 else n==0
def B8(c:Cd)(i:Ay)(l:Int)(m:Ty):Bool:=if l=7 then i.n==0&&B1 i.bits else i.bits==0&&ED c i.n l m
def AN(c:Cd)(i:Ay)(r:Rw):Bool:=
 Ab c.regs r.d i.d (Ao c.regs i r)&&(Ab c.regs r.a i.a (Ao c.regs i r)&&(Ab c.regs r.b i.b (Ao c.regs i r)&&(Ab c.regs r.c i.c (Ao c.regs i r)&&B8 c i r.n (Ao c.regs i r))))
structure Bk where
 loop:Bool
 par:Int
 ahead:Nat
structure Wk where
 set:List Nat
 opens:List Bk
def Au(s:Wk):Bool:=match s.opens with |b::_=>b.loop|[]=>false
def B5(s:Wk):Int:=match s.opens with |b::_=>b.par|[]=>0
def At(c:Cd)(s:Wk)(i:Ay)(r:Rw):Bool:=
 if i.op=34\/i.op=36 then !Au s&&decide (s.opens.length<64)
 else if i.op=35 then !s.opens.isEmpty&& !Au s
 else if i.op=37 then Au s
 else !Au s||(B2 i.op&&decide (Ao c.regs i r=⟨3,B5 s⟩))
def AG(i:Ay)(r:Rw):List Int:=(if r.a=0 then [] else [i.a])++((if r.b=0 then [] else [i.b])++(if r.c=0 then [] else [i.c]))
def AC(s:Wk):Wk:=match s.opens with
 |b::r=>⟨if b.loop then s.set else s.set.take b.ahead,r⟩
 |[]=>s
def CY(s:Wk)(i:Ay):Wk:=
 if i.op=34\/i.op=36 then⟨s.set,⟨i.op==36,i.n,s.set.length⟩::s.opens⟩else if i.op=35\/i.op=37 then AC s else s
def Eu(s:Wk)(i:Ay)(r:Rw):Wk:=if r.d≠0/\i.d.toNat∉s.set then⟨s.set++[i.d.toNat],s.opens⟩else s
def DF(s:Wk)(i:Ay)(r:Rw):Wk:=Eu (CY s i) i r
def Db(s:Wk)(i:Ay)(r:Rw):Bool:=(AG i r).all fun n=>decide (n.toNat∈s.set)
def AI(c:Cd)(s:Wk)(i:Ay):Bool:=Aq i.op&&(AN c i (Ad i.op)&&(At c s i (Ad i.op)&&Db s i (Ad i.op)))
def Ap(s:Wk)(i:Ay):Wk:=DF s i (Ad i.op)
def DS(c:Cd):Wk->Nat->List Ay->Int×Int
 |s,k,[]=>if s.opens.isEmpty then(0,0)else(160,k)
 |s,k,i::r=>if AI c s i then DS c (Ap s i) (k+1) r else(160,k)
def Af(c:Cd):Bool:=c.regs.all fun t=>An t c.sign.length
def AK(c:Cd):Bool:=c.slots.all fun s=>AE s c.sign.length
def B3(c:Cd):Int:=
 if Ar c.sign≠0 then Ar c.sign
 else if 16384<c.regs.length\/32768<c.list.length then 181
 else if 4096<c.slots.length then 180
 else if Af c&&AK c then 0 else 160
def Ai(c:Cd):Int×Int:=if B3 c≠0 then(B3 c,-1)else DS c ⟨[],[]⟩ 0 c.list
def Kn:Nat->List Bk->Prop
 |_,[]=>True
 |n,b::r=>b.ahead<=n/\Kn b.ahead r
theorem Kn.mono:∀ {r:List Bk} {n m:Nat},Kn n r->n<=m->Kn m r
 |[],_,_,_,_=>trivial
 |b::r,n,m,h,k=>⟨gH h.1 k,h.2⟩
structure BG(n:Nat)(s:Wk):Prop where
 nodup:s.set.Nodup
 lt:∀x∈s.set,x<n
 opens:Kn s.set.length s.opens
 nest:s.opens.length<=64
theorem BG.start(n:Nat):BG n ⟨[],[]⟩:=⟨List.nodup_nil,fun x h=>absurd h sM,trivial,gI _⟩
theorem BG.leave{n:Nat}{s:Wk}(h:BG n s):BG n (AC s):=by
 obtain⟨X,O⟩:=s;cases O with
 |nil=>exact h
 |cons b r=>
  obtain⟨h1,h2,⟨h3,h4⟩,h5⟩:=h;simp only[AC];simp only at h1 h2 h3 h4 h5;split
  .exact⟨h1,h2,h4.mono h3,by simp at h5 |-;omega⟩
  .refine⟨List.Sublist.nodup (List.take_sublist _ _) h1,fun x hx=>h2 x (List.mem_of_mem_take hx),?_,by simp at h5 |-;omega⟩;simp only[List.length_take];rw[Nat.min_eq_left h3];exact h4
theorem BG.turn{n:Nat}{s:Wk}{i:Ay}(h:BG n s)(hm:i.op=34\/i.op=36->s.opens.length<64):BG n (CY s i):=by
 unfold CY;split
 .rename_i e;exact⟨h.nodup,h.lt,⟨gF _,h.opens⟩,by have:=hm e;simp;omega⟩
 .split
  .exact h.leave
  .exact h
theorem BG.add{n:Nat}{s:Wk}{i:Ay}{r:Rw}(h:BG n s)(hd:r.d≠0->i.d.toNat<n):BG n (Eu s i r):=by
 unfold Eu;split
 .rename_i e;refine⟨?_,fun x hx=>?_,h.opens.mono sM,h.nest⟩
  .rw[List.nodup_append];refine⟨h.nodup,sM,fun a ha b hb=>?_⟩;simp at hb;subst hb;exact fun e'=>e.2 (e'▸ha)
  .rcases List.mem_append.1 hx with hx|hx
   .exact h.lt x hx
   .simp at hx;subst hx;exact hd e.1
 .exact h
theorem Ht:∀ {n:Nat} {l:List Nat},l.Nodup->(∀x∈l,x<n)->l.length<=n:=by
 intro n;induction n with
 |zero=>intro l _ h;cases l with
  |nil=>exact gF _
  |cons a t=>exact absurd (h a sM) (Nat.not_lt_zero _)
 |succ n ih=>
  intro l hd h;have h1:=ih (l:=l.erase n) (hd.erase n) fun x hx=>by
   have h2:=h x (List.mem_of_mem_erase hx);have h3:x≠n:=fun e=>by
    subst e;exact(List.Nodup.not_mem_erase hd) hx
   omega
  have h2:l.length<=(l.erase n).length+1:=by
   rw[List.length_erase];split<;>omega
  omega
theorem BG.len{n:Nat}{s:Wk}(h:BG n s):s.set.length<=n:=Ht h.nodup h.lt
theorem Cf{n:Int}{k:Nat}:Ae n k=true↔0<=n/\n<(k:Int):=by unfold Ae;simp
theorem AT{rs:List Ty}{l n:Int}{m:Ty}(h:Ab rs l n m=true)(hl:l≠0):0<=n/\n<(rs.length:Int):=by
 unfold Ab at h;rw[if_neg hl]at h;simp only[Bool.and_eq_true]at h;exact Cf.1 h.1
theorem Ef{c:Cd}{i:Ay}{r:Rw}(h:AN c i r=true):Ab c.regs r.d i.d (Ao c.regs i r)=true:=by
 unfold AN at h;simp only[Bool.and_eq_true]at h;exact h.1
theorem FP{c:Cd}{i:Ay}{r:Rw}(h:AN c i r=true):Ab c.regs r.a i.a (Ao c.regs i r)=true:=by
 unfold AN at h;simp only[Bool.and_eq_true]at h;exact h.2.1
theorem FQ{c:Cd}{i:Ay}{r:Rw}(h:AN c i r=true):Ab c.regs r.b i.b (Ao c.regs i r)=true:=by
 unfold AN at h;simp only[Bool.and_eq_true]at h;exact h.2.2.1
theorem FR{c:Cd}{i:Ay}{r:Rw}(h:AN c i r=true):Ab c.regs r.c i.c (Ao c.regs i r)=true:=by
 unfold AN at h;simp only[Bool.and_eq_true]at h;exact h.2.2.2.1
theorem CE{c:Cd}{s:Wk}{i:Ay}(h:AI c s i=true):Aq i.op=true/\AN c i (Ad i.op)=true/\At c s i (Ad i.op)=true/\Db s i (Ad i.op)=true:=by
 unfold AI at h;simp only[Bool.and_eq_true]at h;exact h
theorem CD{c:Cd}{s:Wk}{i:Ay}{r:Rw}(h:At c s i r=true)(e:i.op=34\/i.op=36):s.opens.length<64:=by
 unfold At at h;rw[if_pos e]at h;simp only[Bool.and_eq_true,decide_eq_true_eq]at h;exact h.2
theorem BG.step{c:Cd}{s:Wk}{i:Ay}(h:BG c.regs.length s)(t:AI c s i=true):BG c.regs.length (Ap s i):=by
 obtain⟨_,h2,h3,_⟩:=CE t;refine(h.turn (CD h3)).add fun hd=>?_;have:=AT (Ef h2) hd;omega
theorem GU(a:Int)(h0:0<=a)(h1:a<4294967296)(w:World):
 Calls prog 88 #[.int .u32 a] w fun e w'=>e=.returned (.tuple #[.bool (decide (2147483648<=a)),.int .i64 (a/8388608%256),.int .i64 (a%8388608)])/\w'=w:=by
 have e1:=Ex a h0 h1;have e2:=Kv (a/8388608) oM oM;have e3:=JQ a h0 h1;go_enter func88,ntmps88;go_wp2
 go_ret3
 exact⟨rfl,rfl⟩
theorem E0(a:Int)(h0:0<=a)(h1:a<4294967296)(w:World):
 Calls prog 86 #[.int .u32 a] w fun e w'=>e=.returned (.int .i64 (F3 a))/\w'=w:=by
 by_cases c1:a/8388608%256=255
 .by_cases c2:a%8388608=0
  .have hc:F3 a=4:=by unfold F3;rw[if_pos c1,if_pos c2]
   exact Ku
  .have hc:F3 a=5:=by unfold F3;rw[if_pos c1,if_neg c2]
   exact Ku
 .by_cases c2:a/8388608%256=0
  .by_cases c3:a%8388608=0
   .have hc:F3 a=1:=by unfold F3;rw[if_neg c1,if_pos c2,if_pos c3]
    exact Ku
   .have hc:F3 a=2:=by unfold F3;rw[if_neg c1,if_pos c2,if_neg c3]
    exact Ku
  .have hc:F3 a=3:=by unfold F3;rw[if_neg c1,if_neg c2]
   exact Ku
theorem GF(a:Int)(h0:0<=a)(h1:a<4294967296)(hn:Ft a=true)(w:World):
 Calls prog 86 #[.int .u32 a] w fun e w'=>e=.returned (.int .i64 5)/\w'=w:=by
 have:=E0 a h0 h1 w;rwa[J2 a hn h0 h1]at this
theorem GD(a:Int)(h0:0<=a)(h1:a<4294967296)(w:World):
 Calls prog 84 #[.int .u32 a] w fun e w'=>e=.returned (.int .u32 (Bw a))/\w'=w:=by
 cases hn:Ft a
 .have hc:Bw a=a:=by unfold Bw;simp[hn]
  have h5:(F3 a==5)=false:=by have:=J3 a hn h0 h1;simpa using this
  rw[hc];clear hc hn;go_enter func84,ntmps84;go_wp2_with(go_at_call 86;refine(E0 _ h0 h1 _).mono ?_;rintro e w' ⟨rfl,rfl⟩);go_ret;exact⟨rfl,rfl⟩
 .have hc:Bw a=2143289344:=by unfold Bw;simp[hn]
  rw[hc];clear hc;go_enter func84,ntmps84;go_wp2_with(go_at_call 86;refine(GF _ h0 h1 hn _).mono ?_;rintro e w' ⟨rfl,rfl⟩);go_ret;exact⟨rfl,rfl⟩
def GA(t:Ty):List Value:=[.int .i64 t.kind,.int .i64 t.par]
def Hf(s:Sl):List Value:=[.int .i64 s.ty.kind,.int .i64 s.ty.par,.bool s.keep,.int .u32 s.bits,.int .i64 s.int_]
def C9(i:Ay):List Value:=[.int .i64 i.op,.int .i64 i.d,.int .i64 i.a,.int .i64 i.b,.int .i64 i.c,.int .i64 i.n,.int .u32 i.bits]
theorem Dv(t:Ty):(GA t).length=2:=rfl
theorem Eo(t:Sl):(Hf t).length=5:=rfl
theorem CI(t:Ay):(C9 t).length=7:=rfl
theorem CM(t:AX):(AQ t).length=3:=rfl
def BI(t:Ty):Value:=.agg #[.int .i64 t.kind,.int .i64 t.par]
def Bn(r:Rw):Value:=.agg #[.int .i64 r.d,.int .i64 r.a,.int .i64 r.b,.int .i64 r.c,.int .i64 r.n]
theorem kc{w w':World}(k:Below w.heap.size w w'){a:Addr}{v:Value}(h:w.cell? a=some v):w'.cell? a=some v:=(k.cell (Ac h)).trans h
theorem kf{w w':World}(k:Below w.heap.size w w'){a:Addr}{v:Value}(h:w.cell? a=some v)(f:w.frozen? a=false):w'.frozen? a=false:=(k.frozen (Ac h)).trans f
def Al(w:World)(b o:Nat)(cs:List Value):Prop:=∀j (h:j<cs.length),w.cell? ⟨b,o+j,none⟩=some cs[j]
theorem Al.below{w w':World}{b o:Nat}{cs:List Value}(h:Al w b o cs)(k:Below w.heap.size w w'):Al w' b o cs:=fun j hj=>(k.cell (Ac (h j hj))).trans (h j hj)
theorem Al.at{w:World}{b o:Nat}{cs:List Value}(h:Al w b o cs)(j:Nat){v:Value}(e:cs[j]? =some v):w.cell? ⟨b,o+j,none⟩=some v:=by
 obtain⟨hj,e⟩:=List.getElem?_eq_some_iff.1 e;rw[h j hj,e]
theorem Al.of_block{w w':World}{b o:Nat}{cs:List Value}(h:Al w b o cs)(e:w'.heap[b]? =w.heap[b]?):Al w' b o cs:=fun j hj=>(gC e).trans (h j hj)
def AS{α:Type}(k:Nat)(f:α->List Value)(w:World)(v:Value)(l:List α):Prop:=
 ∃p c,v=.slice p l.length c/\(l=[]\/∃b o,p=some ⟨b,o,none⟩/\∀i (h:i<l.length),Al w b (o+i*k) (f l[i]))
theorem AS.below{α:Type}{k:Nat}{f:α->List Value}{w w':World}{v:Value}{l:List α}(h:AS k f w v l)(q:Below w.heap.size w w'):AS k f w' v l:=by
 obtain⟨p,c,hv,h⟩:=h;exact⟨p,c,hv,h.imp id fun⟨b,o,hp,h⟩=>⟨b,o,hp,fun i hi=>(h i hi).below q⟩⟩
theorem AS.at{α:Type}{k:Nat}{f:α->List Value}{w:World}{p:Option Addr}{n c:Nat}{l:List α}(h:AS k f w (.slice p n c) l){i:Nat}(hi:i<l.length):∃b o,p=some ⟨b,o,none⟩/\Al w b (o+i*k) (f l[i]):=by
 obtain⟨p',c',hv,h⟩:=h;simp only[Value.slice.injEq]at hv;obtain⟨rfl,rfl,rfl⟩:=hv;rcases h with h|⟨b,o,hp,h⟩
 .rw[h]at hi;exact absurd hi (Nat.not_lt_zero _)
 .exact⟨b,o,hp,h i hi⟩
theorem AS.rd{w:World}{v:Value}{l:List AX}(h:AS 3 AQ w v l):Rd w v l:=by
 obtain⟨p,c,hv,h⟩:=h;exact⟨p,c,hv,h.imp id fun⟨b,o,hp,h⟩=>⟨b,o,hp,fun i hi=>⟨(h i hi).at 0 rfl,(h i hi).at 1 rfl,(h i hi).at 2 rfl⟩⟩⟩
structure Bt(w:World)(v0 v1 v2 v3:Value)(c:Cd):Prop where
 sign:AS 3 AQ w v0 c.sign
 regs:AS 2 GA w v1 c.regs
 slots:AS 5 Hf w v2 c.slots
 list:AS 7 C9 w v3 c.list
theorem Bt.below{w w':World}{v0 v1 v2 v3:Value}{c:Cd}(h:Bt w v0 v1 v2 v3 c)(k:Below w.heap.size w w'):Bt w' v0 v1 v2 v3 c:=⟨h.sign.below k,h.regs.below k,h.slots.below k,h.list.below k⟩
def AM(w:World)(C:Nat)(v0 v1 v2 v3:Value)(c:Cd):Prop:=Al w C 0 [v0,v1,v2,v3]/\Bt w v0 v1 v2 v3 c
theorem AM.below{w w':World}{C:Nat}{v0 v1 v2 v3:Value}{c:Cd}(h:AM w C v0 v1 v2 v3 c)(k:Below w.heap.size w w'):AM w' C v0 v1 v2 v3 c:=⟨h.1.below k,h.2.below k⟩
structure AJ(c:Cd):Prop where
 signL:c.sign.length<=140737488351232
 names:∀p∈c.sign,p.name.size<=140737488351232
 regsL:c.regs.length<=140737488351232
 slotsL:c.slots.length<=140737488351232
 listL:c.list.length<=140737488351232
 sbits:∀s∈c.slots,0<=s.bits/\s.bits<4294967296
 ibits:∀i∈c.list,0<=i.bits/\i.bits<4294967296
theorem Bi(n:Int)(k:Nat)(w:World):Calls prog 76 #[.int .i64 n,.int .i64 k] w fun e w'=>e=.returned (.bool (Ae n k))/\w'=w:=by
 unfold Ae;by_cases h:0<=n
 all_goals
  go_enter func76,ntmps76;exact Li
theorem Dk(n:Int)(w:World):Calls prog 77 #[.int .i64 n] w fun e w'=>e=.returned (.bool (BC n))/\w'=w:=by
 unfold BC;by_cases h:0<=n
 all_goals
  go_enter func77,ntmps77;exact Li
theorem DD(a:Int)(h0:0<=a)(h1:a<4294967296)(w:World):Calls prog 78 #[.int .u32 a] w fun e w'=>e=.returned (.bool (B1 a))/\w'=w:=by
 have hc:B1 a=(Bw a==a):=by unfold B1 Bw;cases Ft a<;>rw[Bool.eq_iff_iff]<;>simp
 rw[hc];have HK:Hid (∀w,Calls prog 84 #[.int .u32 a] w fun e w'=>e=.returned (.int .u32 (Bw a))/\w'=w):=GD a h0 h1;clear hc;obtain⟨x,hx⟩:=gA (Bw a)
 rw[hx]at HK |-;clear hx;go_enter func78,ntmps78;go_wp2_with(go_at_call 84;refine(HK.out _).mono ?_;rintro e w1 ⟨rfl,rfl⟩);go_ret;exact⟨rfl,rfl⟩
theorem Cx(t:Ty)(p:Option Addr)(n c:Nat)(hn:n<=140737488351232)(w:World):Calls prog 59 #[BI t,.slice p n c] w fun e w'=>e=.returned (.bool (An t n))/\Below w.heap.size w w':=by
 obtain⟨K,P⟩:=t;have HK:Hid (∀w,Calls prog 76 #[.int .i64 P,.int .i64 n] w fun e w'=>e=.returned (.bool (Ae P n))/\w'=w):=Bi P n;unfold An BI;simp only;by_cases h1:K=1
 .subst h1;rw[if_pos (Or.inl rfl)];exact LI
 .by_cases h2:K=2
  .subst h2;rw[if_pos (Or.inr rfl)];exact LI
  .rw[if_neg (fun e=>e.elim h1 h2)];have h1':(K==1)=false:=by simpa using h1
   have h2':(K==2)=false:=by simpa using h2
   by_cases h3:K=3
   .subst h3;rw[if_pos rfl];go_enter func59,ntmps59;exact Ms
   .rw[if_neg h3];have h3':(K==3)=false:=by simpa using h3
    clear h1 h2 h3;exact LI
def Hg(s:Sl):Value:=.agg #[.int .i64 s.ty.kind,.int .i64 s.ty.par,.bool s.keep,.int .u32 s.bits,.int .i64 s.int_]
theorem F6(s:Sl)(h0:0<=s.bits)(h1:s.bits<4294967296)(w:World):Calls prog 60 #[Hg s] w fun e w'=>e=.returned (.bool (D6 s))/\Below w.heap.size w w':=by
 have HK:Hid (∀w,Calls prog 78 #[.int .u32 s.bits] w fun e w'=>e=.returned (.bool (B1 s.bits))/\w'=w):=DD s.bits h0 h1;have HL:Hid (∀w,Calls prog 77 #[.int .i64 s.int_] w fun e w'=>e=.returned (.bool (BC s.int_))/\w'=w):=Dk s.int_;obtain⟨⟨K,P⟩,Q,B,I⟩:=s;unfold D6 Hg;simp only at HK HL h0 h1 |-;obtain⟨X,hX⟩:=gA (B1 B)
 obtain⟨Y,hY⟩:=gA (BC I)
 rw[hX]at HK |-;rw[hY]at HL |-;clear hX hY;by_cases h2:K=2
 .subst h2;rw[if_pos rfl];cases hb:(B==0)
  all_goals
   go_enter func60,ntmps60;go_wp2_with(go_at_call 77;refine(HL.out _).mono ?_;rintro e w1 ⟨rfl,rfl⟩);go_ret;exact⟨A9 (by simp[hb]),A0 _ _⟩
 .rw[if_neg h2];have h2':(K==2)=false:=by simpa using h2
  clear h2;cases hb:(I==0)
  all_goals
   go_enter func60,ntmps60;go_wp2_with(go_at_call 78;refine(HK.out _).mono ?_;rintro e w1 ⟨rfl,rfl⟩);go_ret;exact⟨A9 (by simp[hb]),A0 _ _⟩
theorem IV(K P L Q:Int):decide ((⟨K,P⟩:Ty)=⟨L,Q⟩)=(K==L&&P==Q):=by
 rw[Bool.eq_iff_iff];simp
theorem GQ(l:Int)(t m:Ty)(w:World):Calls prog 79 #[.int .i64 l,BI t,BI m] w fun e w'=>e=.returned (.bool (Cg l t m))/\Below w.heap.size w w':=by
 obtain⟨K,P⟩:=t;obtain⟨L,Q⟩:=m;unfold Cg BI;simp only[IV];by_cases h1:l=1
 .subst h1;rw[if_pos rfl];go_enter func79,ntmps79;go_wp2;go_ret;exact IX
 rw[if_neg h1];by_cases h2:l=2
 .subst h2;rw[if_pos rfl];clear h1;go_enter func79,ntmps79;go_wp2;go_ret;exact IX
 rw[if_neg h2];by_cases h3:l=3
 .subst h3;rw[if_pos rfl];clear h1 h2;go_enter func79,ntmps79;go_wp2;go_ret;exact IX
 rw[if_neg h3];by_cases h4:l=4
 .subst h4;rw[if_pos rfl];clear h1 h2 h3;cases hk:(K==1)
  all_goals
   go_enter func79,ntmps79;go_wp2;go_ret;exact⟨A9 (by simp[hk]),bel (A0 _ _) (A0 _ _)⟩
 rw[if_neg h4];by_cases h5:l=5
 .subst h5;rw[if_pos rfl];clear h1 h2 h3 h4;cases hk:(K==1)<;>cases hl:(K==L)<;>cases hq:(P==Q)
  all_goals
   go_enter func79,ntmps79;go_wp2;go_ret;exact⟨A9 (by simp[hk,hl,hq]),bel (A0 _ _) (A0 _ _)⟩
 rw[if_neg h5];have h1':(l==1)=false:=by simpa using h1
 have h2':(l==2)=false:=by simpa using h2
 have h3':(l==3)=false:=by simpa using h3
 have h4':(l==4)=false:=by simpa using h4
 have h5':(l==5)=false:=by simpa using h5
 clear h1 h2 h3 h4 h5;go_enter func79,ntmps79;go_wp2
 all_goals
  go_ret;exact⟨A9 (by simp[*]),bel (A0 _ _) (A0 _ _)⟩
theorem BR{l:List Ty}{n:Int}{k:Nat}(h:n=(k:Int))(hk:k<l.length):Ak l n=l[k]:=by
 subst h;unfold Ak;rw[if_pos (Cf.2 ⟨oM,oM⟩),Int.toNat_natCast,gB hk];rfl
theorem Bz{n:Int}{k:Nat}(h:Ae n k=true):∃m:Nat,n=(m:Int)/\m<k:=by
 obtain⟨h0,h1⟩:=Cf.1 h;exact⟨n.toNat,oM,oM⟩
theorem AZ(C:Nat)(v0 v1 v2 v3:Value)(c:Cd)(hk:AJ c)(l n:Int)(m:Ty)(w:World)(hc:AM w C v0 v1 v2 v3 c):
 Calls prog 63 #[.pointer (some ⟨C,0,none⟩),.int .i64 l,.int .i64 n,BI m] w fun e w'=>e=.returned (.bool (Ab c.regs l n m))/\Below w.heap.size w w':=by
 unfold Ab;by_cases h0:l=0
 .subst h0;rw[if_pos rfl];unfold BI;go_enter func63,ntmps63;go_wp2;go_ret;exact⟨rfl,A0 _ _⟩
 rw[if_neg h0];have h0':(l==0)=false:=by simpa using h0
 clear h0;have HB:=hk.regsL;have K1:=Bi n c.regs.length;obtain⟨hcc,hcv⟩:=hc;have c1:=hcc.at 1 rfl;rw[Nat.zero_add]at c1;have hr:=hcv.regs;obtain⟨p,q,rfl,hrr⟩:=hcv.regs;have HN:Hid (c.regs.length=c.regs.length):=rfl;obtain⟨X,hX⟩:=gA (Ae n c.regs.length)
 simp only[hX]at K1;rw[hX];have hC:=Ac c1;simp only at hC;cases X
 .clear hr hrr hcc hcv;obtain⟨N,hN⟩:=gA (c.regs.length)
  rw[hN]at K1 c1 HB;have HK:Hid (∀w,Calls prog 76 #[.int .i64 n,.int .i64 N] w fun e w'=>e=.returned (.bool false)/\w'=w):=K1;clear hN K1 hX HN;obtain⟨A,B⟩:=m;unfold BI;go_enter func63,ntmps63;go_wp2;have hC':C≠w.heap.size:=oM;refine rG (fun v=>v.cell? ⟨C,1,none⟩=some (.slice p N q)) fun hJ=>?_;exact LY
 .obtain⟨k,hnk,hkl⟩:=Bz hX;rw[BR hnk hkl];have hti:c.regs[k]=c.regs[k]:=rfl;obtain⟨b,o,hp,hx⟩:=hr.at hkl;subst hp;subst hnk;have x0:=hx.at 0 rfl;have x1:=hx.at 1 rfl;rw[Nat.add_zero]at x0;have hbl:=Ac x0;simp only at hbl;have K2:=GQ l c.regs[k] m;obtain⟨T,hT⟩:=gA (c.regs[k])
  rw[hT]at x0 x1 K2 |-;obtain⟨N,hN⟩:=gA (c.regs.length)
  rw[hN]at K1 c1 HB hkl;have HK:Hid (∀w,Calls prog 76 #[.int .i64 (k:Int),.int .i64 N] w fun e w'=>e=.returned (.bool true)/\w'=w):=K1;clear hN K1 hX HN hr hrr hcc hcv hx hti hT;obtain⟨A,B⟩:=m;obtain⟨D,E⟩:=T;unfold BI at K2 |-;simp only at x0 x1 K2 |-;obtain⟨Y,hY⟩:=gA (Cg l ⟨D,E⟩ ⟨A,B⟩)
  rw[hY]at K2 |-;have HM:Hid (∀w,Calls prog 79 #[.int .i64 l,.agg #[.int .i64 D,.int .i64 E],.agg #[.int .i64 A,.int .i64 B]] w fun e w'=>e=.returned (.bool Y)/\Below w.heap.size w w'):=K2;clear K2 hY;have i1:(0:Int)<=(k:Int):=oM;have i2:(k:Int)<(N:Int):=oM;have hC':C≠w.heap.size:=oM;have hb':b≠w.heap.size:=oM;have HC:Hid (∀v,Below (w.alloc (.cells #[.int .i64 A,.int .i64 B] 47)).heap.size (w.alloc (.cells #[.int .i64 A,.int .i64 B] 47)) v->v.cell? ⟨C,1,none⟩=some (.slice (some ⟨b,o,none⟩) N q)/\v.cell? ⟨b,o+k*2,none⟩=some (.int .i64 D)/\v.cell? ⟨b,o+k*2+1,none⟩=some (.int .i64 E)/\v.cell? ⟨w.heap.size,0,none⟩=some (.int .i64 A)/\v.cell? ⟨w.heap.size,1,none⟩=some (.int .i64 B)):=
   fun v hv=>⟨kc hv (kc (A0 _ _) c1),kc hv (kc (A0 _ _) x0),kc hv (kc (A0 _ _) x1),kc hv sG,kc hv sG⟩
  go_enter func63,ntmps63;go_wp2;refine rG (fun v=>v.cell? ⟨C,1,none⟩=some (.slice (some ⟨b,o,none⟩) N q)/\v.cell? ⟨b,o+k*2,none⟩=some (.int .i64 D)/\v.cell? ⟨b,o+k*2+1,none⟩=some (.int .i64 E)/\v.cell? ⟨w.heap.size,0,none⟩=some (.int .i64 A)/\v.cell? ⟨w.heap.size,1,none⟩=some (.int .i64 B)) fun hJ=>?_;refine wpAnyH_take (i:=0) (v:=?_) A5 kR kR kR A6 (Or.inl ⟨rF,?_⟩) A7 ?_
  rotate_left 1
  ·(intro wS hSw;(try dsimp only at hSw);go_simp;try(with_reducible rfl))
  try simp only[Act.put,List.setIfInBounds_toArray,List.set_cons_zero,List.set_cons_succ]
  refine wpAnyH_take (i:=1) (v:=?_) A5 kR kR kR A6 (Or.inl ⟨rF,?_⟩) A7 ?_
  rotate_left 1
  ·(intro wS hSw;(try dsimp only at hSw);go_simp;try(with_reducible rfl))
  try simp only[Act.put,List.setIfInBounds_toArray,List.set_cons_zero,List.set_cons_succ]
  refine wpAnyH_take (i:=2) (v:=?_) A5 kR kR kR A6 (Or.inl ⟨rF,?_⟩) A7 ?_
  rotate_left 1
  ·(intro wS hSw;(try dsimp only at hSw);go_simp;try(with_reducible rfl))
  try simp only[Act.put,List.setIfInBounds_toArray,List.set_cons_zero,List.set_cons_succ]
  refine wpAnyH_take (i:=3) (v:=?_) A5 kR kR kR A6 (Or.inl ⟨rF,?_⟩) A7 ?_
  rotate_left 1
  ·(intro wS hSw;(try dsimp only at hSw);go_simp;try(with_reducible rfl))
  try simp only[Act.put,List.setIfInBounds_toArray,List.set_cons_zero,List.set_cons_succ]
  refine wpAnyH_take (i:=4) (v:=?_) A5 kR kR kR A6 (Or.inl ⟨rF,?_⟩) A7 ?_
  rotate_left 1
  ·(intro wS hSw;(try dsimp only at hSw);go_simp;try(with_reducible rfl))
  try simp only[Act.put,List.setIfInBounds_toArray,List.set_cons_zero,List.set_cons_succ]
  refine wpAnyH_take (i:=5) (v:=?_) A5 kR kR kR A6 (Or.inl ⟨rF,?_⟩) A7 ?_
  rotate_left 1
  ·(intro wS hSw;(try dsimp only at hSw);go_simp;try(with_reducible rfl))
  try simp only[Act.put,List.setIfInBounds_toArray,List.set_cons_zero,List.set_cons_succ]
  clear hJ;refine AH 6 fun K hK=>?_;go_simp;(go_at_call 76;refine(HK.out _).mono ?_;rintro e w1 ⟨rfl,rfl⟩);try(go_wp2_with fail)
  refine AO hK fun hJ=>?_;clear hK K;refine wpAnyH_take (i:=7) (v:=?_) A5 kR kR kR A6 (Or.inl ⟨rF,?_⟩) A7 ?_
  rotate_left 1
  ·(intro wS hSw;(try dsimp only at hSw);go_simp;try(with_reducible rfl))
  try simp only[Act.put,List.setIfInBounds_toArray,List.set_cons_zero,List.set_cons_succ]
  refine wpAnyH_take (i:=8) (v:=?_) A5 kR kR kR A6 (Or.inl ⟨rF,?_⟩) A7 ?_
  rotate_left 1
  ·(intro wS hSw;(try dsimp only at hSw);go_simp;try(with_reducible rfl))
  try simp only[Act.put,List.setIfInBounds_toArray,List.set_cons_zero,List.set_cons_succ]
  refine wpAnyH_take (i:=9) (v:=?_) A5 kR kR kR A6 (Or.inl ⟨rF,?_⟩) A7 ?_
  rotate_left 1
  ·(intro wS hSw;(try dsimp only at hSw);go_simp;try(with_reducible rfl))
  try simp only[Act.put,List.setIfInBounds_toArray,List.set_cons_zero,List.set_cons_succ]
  refine wpAnyH_take (i:=10) (v:=?_) A5 kR kR kR A6 (Or.inl ⟨rF,?_⟩) A7 ?_
  rotate_left 1
  ·(intro wS hSw;(try dsimp only at hSw);go_simp;try(with_reducible rfl))
  try simp only[Act.put,List.setIfInBounds_toArray,List.set_cons_zero,List.set_cons_succ]
  refine wpAnyH_take (i:=11) (v:=?_) A5 kR kR kR A6 (Or.inl ⟨rF,?_⟩) A7 ?_
  rotate_left 1
  ·(intro wS hSw;(try dsimp only at hSw);go_simp;try(with_reducible rfl))
  try simp only[Act.put,List.setIfInBounds_toArray,List.set_cons_zero,List.set_cons_succ]
  refine wpAnyH_take (i:=12) (v:=?_) A5 kR kR kR A6 (Or.inl ⟨rF,?_⟩) A7 ?_
  rotate_left 1
  ·(intro wS hSw;(try dsimp only at hSw);go_simp;try(with_reducible rfl))
  try simp only[Act.put,List.setIfInBounds_toArray,List.set_cons_zero,List.set_cons_succ]
  refine wpAnyH_take (i:=13) (v:=?_) A5 kR kR kR A6 (Or.inl ⟨rF,?_⟩) A7 ?_
  rotate_left 1
  ·(intro wS hSw;(try dsimp only at hSw);go_simp;try(with_reducible rfl))
  try simp only[Act.put,List.setIfInBounds_toArray,List.set_cons_zero,List.set_cons_succ]
  refine wpAnyH_take (i:=14) (v:=?_) A5 kR kR kR A6 (Or.inl ⟨rF,?_⟩) A7 ?_
  rotate_left 1
  ·(intro wS hSw;(try dsimp only at hSw);go_simp;try(with_reducible rfl))
  try simp only[Act.put,List.setIfInBounds_toArray,List.set_cons_zero,List.set_cons_succ]
  refine wpAnyH_take (i:=15) (v:=?_) A5 kR kR kR A6 (Or.inl ⟨rF,?_⟩) A7 ?_
  rotate_left 1
  ·(intro wS hSw;(try dsimp only at hSw);go_simp;try(with_reducible rfl))
  try simp only[Act.put,List.setIfInBounds_toArray,List.set_cons_zero,List.set_cons_succ]
  refine wpAnyH_take (i:=16) (v:=?_) A5 kR kR kR A6 (Or.inl ⟨rF,?_⟩) A7 ?_
  rotate_left 1
  ·(intro wS hSw;(try dsimp only at hSw);go_simp;try(with_reducible rfl))
  try simp only[Act.put,List.setIfInBounds_toArray,List.set_cons_zero,List.set_cons_succ]
  clear hJ;refine AH 17 fun K hK=>?_;go_simp;(go_at_call 79;refine(HM.out _).mono ?_;rintro e w1 ⟨rfl,hb1⟩;have HB1:=bel (Aa _) hb1;obtain⟨y0,y1,y2,y3,y4⟩:=HC.out w1 HB1);try(go_wp2_with fail)
  refine AO hK fun hJ=>?_;clear hK K;refine wpAnyH_take (i:=18) (v:=?_) A5 kR kR kR A6 (Or.inl ⟨rF,?_⟩) A7 ?_
  rotate_left 1
  ·(intro wS hSw;(try dsimp only at hSw);go_simp;try(with_reducible rfl))
  try simp only[Act.put,List.setIfInBounds_toArray,List.set_cons_zero,List.set_cons_succ]
  refine wpAnyH_take (i:=19) (v:=?_) A5 kR kR kR A6 (Or.inl ⟨rF,?_⟩) A7 ?_
  rotate_left 1
  ·(intro wS hSw;(try dsimp only at hSw);go_simp;try(with_reducible rfl))
  try simp only[Act.put,List.setIfInBounds_toArray,List.set_cons_zero,List.set_cons_succ]
  refine wpAnyH_done kR ?_ _;go_wp2;go_ret;exact⟨sM,bel (A0 _ _) HB1⟩
theorem DV(C:Nat)(p:Option Addr)(N q:Nat)(l:List Ty)(b o:Nat)(i:Ay)(r:Rw)(w:World)(hN:l.length=N)(c1:w.cell? ⟨C,1,none⟩=some (.slice p N q))(hr:AS 2 GA w (.slice p N q) l)(hB:N<=140737488351232)(hi:Al w b o (C9 i)):
 Calls prog 61 #[.pointer (some ⟨C,0,none⟩),.pointer (some ⟨b,o,none⟩),Bn r] w fun e w'=>e=.returned (BI (Ao l i r))/\Below w.heap.size w w':=by
 unfold Ao EH;have e1:=hi.at 1 rfl;have e2:=hi.at 2 rfl;have hC:=Ac c1;have hb:=Ac e1;simp only at hC hb;have n1:C≠w.heap.size:=oM;have n2:C≠w.heap.size+1:=oM;have n3:b≠w.heap.size:=oM;have n4:b≠w.heap.size+1:=oM;clear hi hC hb;obtain⟨D,A,B,X,Y⟩:=r;unfold Bn;simp only;have HA:Hid (∀a v,w.cell? a=some v->((w.alloc (.cells #[.int .i64 D,.int .i64 A,.int .i64 B,.int .i64 X,.int .i64 Y] 89)).alloc (.cells #[.int .i64 0,.int .i64 0] 47)).cell? a=some v):=fun a v h=>kc (A0 _ _) (kc (A0 _ _) h);obtain⟨x,hx⟩:=gA ((if D=0 then i.a else i.d))
 rw[hx];have K1:=Bi x N;have HX:Hid ((D=0/\x=i.a)\/(D≠0/\x=i.d)):=by
  show _\/_;by_cases h:D=0
  .rw[if_pos h]at hx;exact .inl ⟨h,hx.symm⟩
  .rw[if_neg h]at hx;exact .inr ⟨h,hx.symm⟩
 clear hx;obtain⟨P,hP⟩:=gA (Ae x N)
 simp only[hP]at K1;have HK:Hid (∀w,Calls prog 76 #[.int .i64 x,.int .i64 N] w fun e w'=>e=.returned (.bool P)/\w'=w):=K1;clear K1;cases P
 .have HT:Hid (Ak l x=⟨0,0⟩):=by show _=_;unfold Ak;rw[hN,hP];rfl
  clear hP hr;rcases HX.out with⟨rfl,rfl⟩|⟨hD,rfl⟩
  .clear HX;have f1:=HA.out _ _ e1;have f2:=HA.out _ _ e2;have f3:=HA.out _ _ c1;exact L5
  .clear HX;have hD':(D==0)=false:=by simpa using hD
   clear hD;have f1:=HA.out _ _ e1;have f2:=HA.out _ _ e2;have f3:=HA.out _ _ c1;exact L5
 .obtain⟨k,hxk,hk⟩:=Bz hP;have hkl:k<l.length:=oM;have HT:Hid (Ak l x=l[k]):=BR hxk hkl;obtain⟨g,u,hp,hx⟩:=hr.at hkl;subst hp;have x0:=hx.at 0 rfl;have x1:=hx.at 1 rfl;rw[Nat.add_zero]at x0;obtain⟨T,hT⟩:=gA (l[k])
  rw[hT]at x0 x1 HT;obtain⟨E,G⟩:=T;simp only at x0 x1;have hg:=Ac x0;simp only at hg;have n5:g≠w.heap.size:=oM;have n6:g≠w.heap.size+1:=oM;have i1:(0:Int)<=(k:Int):=oM;have i2:(k:Int)<(N:Int):=oM;clear hP hr hx hT hg hN hkl;rcases HX.out with⟨rfl,hv⟩|⟨hD,hv⟩
  .clear HX;rw[<-hv,hxk]at e2;rw[hxk]at HK HT |-;clear hv hxk;have f1:=HA.out _ _ e1;have f2:=HA.out _ _ e2;have f3:=HA.out _ _ c1;have f4:=HA.out _ _ x0;have f5:=HA.out _ _ x1;exact L5
  .clear HX;have hD':(D==0)=false:=by simpa using hD
   rw[<-hv,hxk]at e1;rw[hxk]at HK HT |-;clear hD hv hxk;have f1:=HA.out _ _ e1;have f2:=HA.out _ _ e2;have f3:=HA.out _ _ c1;have f4:=HA.out _ _ x0;have f5:=HA.out _ _ x1;exact L5
theorem CJ(C:Nat)(v0 v1 v2 v3:Value)(c:Cd)(hk:AJ c)(b o:Nat)(i:Ay)(r:Rw)(w:World)(hc:AM w C v0 v1 v2 v3 c)(hi:Al w b o (C9 i)):
 Calls prog 61 #[.pointer (some ⟨C,0,none⟩),.pointer (some ⟨b,o,none⟩),Bn r] w fun e w'=>e=.returned (BI (Ao c.regs i r))/\Below w.heap.size w w':=by
 obtain⟨hcc,hcv⟩:=hc;have c1:=hcc.at 1 rfl;rw[Nat.zero_add]at c1;have hr:=hcv.regs;obtain⟨p,q,rfl,hrr⟩:=hcv.regs;exact DV C p _ q c.regs b o i r w rfl c1 hr hk.regsL hi
theorem J5{l:List AX}{n:Int}{k:Nat}(h:n=(k:Int))(hk:k<l.length):BH l n=l[k].kind:=by
 subst h;unfold BH;rw[Int.toNat_natCast,gB hk];rfl
theorem IP{l:List Sl}{n:Int}{k:Nat}(h:n=(k:Int))(hk:k<l.length):Cm l n=l[k].ty:=by
 subst h;unfold Cm;rw[Int.toNat_natCast,gB hk];rfl
theorem Fh(C:Nat)(v0 v1 v2 v3:Value)(c:Cd)(hk:AJ c)(n:Int)(m:Ty)(w:World)(hc:AM w C v0 v1 v2 v3 c)(hp:n=1->Ae m.par c.sign.length=true):
 Calls prog 80 #[.pointer (some ⟨C,0,none⟩),.int .i64 n,.int .i64 9,BI m] w fun e w'=>e=.returned (.bool (n==0||(n==1&&BH c.sign m.par==2)))/\Below w.heap.size w w':=by
 obtain⟨hcc,hcv⟩:=hc;have c1:=hcc.at 0 rfl;rw[Nat.zero_add]at c1;have hC:=Ac c1;simp only at hC;have n1:C≠w.heap.size:=oM;obtain⟨K,P⟩:=m;unfold BI;simp only at hp |-;have f1:(w.alloc (.cells #[.int .i64 K,.int .i64 P] 47)).cell? ⟨C,0,none⟩=some v0:=kc (A0 _ _) c1;by_cases h0:n=0
 .subst h0;clear hp hcv hcc;go_enter func80,ntmps80;go_wp2;refine rG (fun v=>v.cell? ⟨C,0,none⟩=some v0) fun hJ=>?_;refine wpAnyH_take (i:=0) (v:=?_) A5 kR kR kR A6 (Or.inl ⟨rF,?_⟩) A7 ?_
  rotate_left 1
  ·(intro wS hSw;(try dsimp only at hSw);go_simp;try(with_reducible rfl))
  try simp only[Act.put,List.setIfInBounds_toArray,List.set_cons_zero,List.set_cons_succ]
  refine wpAnyH_take (i:=1) (v:=?_) A5 kR kR kR A6 (Or.inl ⟨rF,?_⟩) A7 ?_
  rotate_left 1
  ·(intro wS hSw;(try dsimp only at hSw);go_simp;try(with_reducible rfl))
  try simp only[Act.put,List.setIfInBounds_toArray,List.set_cons_zero,List.set_cons_succ]
  refine wpAnyH_take (i:=2) (v:=?_) A5 kR kR kR A6 (Or.inl ⟨rF,?_⟩) A7 ?_
  rotate_left 1
  ·(intro wS hSw;(try dsimp only at hSw);go_simp;try(with_reducible rfl))
  try simp only[Act.put,List.setIfInBounds_toArray,List.set_cons_zero,List.set_cons_succ]
  refine wpAnyH_take (i:=3) (v:=undef) A5 kR kR kR A6 (Or.inr ⟨rF,rfl⟩) A7 ?_;try simp only[Act.put,List.setIfInBounds_toArray,List.set_cons_zero,List.set_cons_succ]
  refine wpAnyH_take (i:=4) (v:=undef) A5 kR kR kR A6 (Or.inr ⟨rF,rfl⟩) A7 ?_;try simp only[Act.put,List.setIfInBounds_toArray,List.set_cons_zero,List.set_cons_succ]
  refine wpAnyH_take (i:=5) (v:=undef) A5 kR kR kR A6 (Or.inr ⟨rF,rfl⟩) A7 ?_;try simp only[Act.put,List.setIfInBounds_toArray,List.set_cons_zero,List.set_cons_succ]
  refine wpAnyH_take (i:=6) (v:=undef) A5 kR kR kR A6 (Or.inr ⟨rF,rfl⟩) A7 ?_;try simp only[Act.put,List.setIfInBounds_toArray,List.set_cons_zero,List.set_cons_succ]
  refine wpAnyH_take (i:=7) (v:=undef) A5 kR kR kR A6 (Or.inr ⟨rF,rfl⟩) A7 ?_;try simp only[Act.put,List.setIfInBounds_toArray,List.set_cons_zero,List.set_cons_succ]
  refine wpAnyH_take (i:=8) (v:=undef) A5 kR kR kR A6 (Or.inr ⟨rF,rfl⟩) A7 ?_;try simp only[Act.put,List.setIfInBounds_toArray,List.set_cons_zero,List.set_cons_succ]
  refine wpAnyH_take (i:=9) (v:=undef) A5 kR kR kR A6 (Or.inr ⟨rF,rfl⟩) A7 ?_;try simp only[Act.put,List.setIfInBounds_toArray,List.set_cons_zero,List.set_cons_succ]
  refine wpAnyH_take (i:=10) (v:=undef) A5 kR kR kR A6 (Or.inr ⟨rF,rfl⟩) A7 ?_;try simp only[Act.put,List.setIfInBounds_toArray,List.set_cons_zero,List.set_cons_succ]
  refine wpAnyH_take (i:=11) (v:=undef) A5 kR kR kR A6 (Or.inr ⟨rF,rfl⟩) A7 ?_;try simp only[Act.put,List.setIfInBounds_toArray,List.set_cons_zero,List.set_cons_succ]
  refine wpAnyH_take (i:=12) (v:=undef) A5 kR kR kR A6 (Or.inr ⟨rF,rfl⟩) A7 ?_;try simp only[Act.put,List.setIfInBounds_toArray,List.set_cons_zero,List.set_cons_succ]
  refine wpAnyH_take (i:=13) (v:=undef) A5 kR kR kR A6 (Or.inr ⟨rF,rfl⟩) A7 ?_;try simp only[Act.put,List.setIfInBounds_toArray,List.set_cons_zero,List.set_cons_succ]
  refine wpAnyH_take (i:=14) (v:=undef) A5 kR kR kR A6 (Or.inr ⟨rF,rfl⟩) A7 ?_;try simp only[Act.put,List.setIfInBounds_toArray,List.set_cons_zero,List.set_cons_succ]
  refine wpAnyH_take (i:=15) (v:=undef) A5 kR kR kR A6 (Or.inr ⟨rF,rfl⟩) A7 ?_;try simp only[Act.put,List.setIfInBounds_toArray,List.set_cons_zero,List.set_cons_succ]
  refine wpAnyH_take (i:=16) (v:=undef) A5 kR kR kR A6 (Or.inr ⟨rF,rfl⟩) A7 ?_;try simp only[Act.put,List.setIfInBounds_toArray,List.set_cons_zero,List.set_cons_succ]
  refine wpAnyH_take (i:=17) (v:=?_) A5 kR kR kR A6 (Or.inl ⟨rF,?_⟩) A7 ?_
  rotate_left 1
  ·(intro wS hSw;(try dsimp only at hSw);go_simp;try(with_reducible rfl))
  try simp only[Act.put,List.setIfInBounds_toArray,List.set_cons_zero,List.set_cons_succ]
  refine wpAnyH_take (i:=18) (v:=?_) A5 kR kR kR A6 (Or.inl ⟨rF,?_⟩) A7 ?_
  rotate_left 1
  ·(intro wS hSw;(try dsimp only at hSw);go_simp;try(with_reducible rfl))
  try simp only[Act.put,List.setIfInBounds_toArray,List.set_cons_zero,List.set_cons_succ]
  refine wpAnyH_done kR ?_ _;go_wp2;go_ret;exact⟨rfl,bel (A0 _ _) (Aa _)⟩
 have h0':(n==0)=false:=by simpa using h0
 by_cases h1:n=1
 .subst h1;obtain⟨k,hxk,hk2⟩:=Bz (hp rfl);have hT:=J5 hxk hk2;subst hxk;have hr:=hcv.sign;obtain⟨p,q,rfl,hrr⟩:=hcv.sign;obtain⟨b,o,rfl,hx⟩:=hr.at hk2;have x1:=hx.at 1 rfl;have hb:=Ac x1;simp only at hb;have n2:b≠w.heap.size:=oM;have HB:=hk.signL;obtain⟨T,hT'⟩:=gA (c.sign[k].kind)
  rw[hT']at x1 hT;rw[hT];obtain⟨N,hN⟩:=gA (c.sign.length)
  rw[hN]at c1 HB hk2 f1;have f2:(w.alloc (.cells #[.int .i64 K,.int .i64 (k:Int)] 47)).cell? ⟨b,o+k*3+1,none⟩=some (.int .i64 T):=kc (A0 _ _) x1;have i1:(0:Int)<=(k:Int):=oM;have i2:(k:Int)<(N:Int):=oM;clear hp hcv hcc hr hrr hx hT hT' hN h0 hk;go_enter func80,ntmps80;go_wp2;refine rG (fun v=>v.cell? ⟨C,0,none⟩=some (.slice (some ⟨b,o,none⟩) N q)/\v.cell? ⟨b,o+k*3+1,none⟩=some (.int .i64 T)/\v.cell? ⟨w.heap.size,1,none⟩=some (.int .i64 (k:Int))) fun hJ=>?_;refine wpAnyH_take (i:=0) (v:=?_) A5 kR kR kR A6 (Or.inl ⟨rF,?_⟩) A7 ?_
  rotate_left 1
  ·(intro wS hSw;(try dsimp only at hSw);go_simp;try(with_reducible rfl))
  try simp only[Act.put,List.setIfInBounds_toArray,List.set_cons_zero,List.set_cons_succ]
  refine wpAnyH_take (i:=1) (v:=?_) A5 kR kR kR A6 (Or.inl ⟨rF,?_⟩) A7 ?_
  rotate_left 1
  ·(intro wS hSw;(try dsimp only at hSw);go_simp;try(with_reducible rfl))
  try simp only[Act.put,List.setIfInBounds_toArray,List.set_cons_zero,List.set_cons_succ]
  refine wpAnyH_take (i:=2) (v:=?_) A5 kR kR kR A6 (Or.inl ⟨rF,?_⟩) A7 ?_
  rotate_left 1
  ·(intro wS hSw;(try dsimp only at hSw);go_simp;try(with_reducible rfl))
  try simp only[Act.put,List.setIfInBounds_toArray,List.set_cons_zero,List.set_cons_succ]
  refine wpAnyH_take (i:=3) (v:=?_) A5 kR kR kR A6 (Or.inl ⟨rF,?_⟩) A7 ?_
  rotate_left 1
  ·(intro wS hSw;(try dsimp only at hSw);go_simp;try(with_reducible rfl))
  try simp only[Act.put,List.setIfInBounds_toArray,List.set_cons_zero,List.set_cons_succ]
  refine wpAnyH_take (i:=4) (v:=?_) A5 kR kR kR A6 (Or.inl ⟨rF,?_⟩) A7 ?_
  rotate_left 1
  ·(intro wS hSw;(try dsimp only at hSw);go_simp;try(with_reducible rfl))
  try simp only[Act.put,List.setIfInBounds_toArray,List.set_cons_zero,List.set_cons_succ]
  refine wpAnyH_take (i:=5) (v:=?_) A5 kR kR kR A6 (Or.inl ⟨rF,?_⟩) A7 ?_
  rotate_left 1
  ·(intro wS hSw;(try dsimp only at hSw);go_simp;try(with_reducible rfl))
  try simp only[Act.put,List.setIfInBounds_toArray,List.set_cons_zero,List.set_cons_succ]
  refine wpAnyH_take (i:=6) (v:=?_) A5 kR kR kR A6 (Or.inl ⟨rF,?_⟩) A7 ?_
  rotate_left 1
  ·(intro wS hSw;(try dsimp only at hSw);go_simp;try(with_reducible rfl))
  try simp only[Act.put,List.setIfInBounds_toArray,List.set_cons_zero,List.set_cons_succ]
  refine wpAnyH_take (i:=7) (v:=?_) A5 kR kR kR A6 (Or.inl ⟨rF,?_⟩) A7 ?_
  rotate_left 1
  ·(intro wS hSw;(try dsimp only at hSw);go_simp;try(with_reducible rfl))
  try simp only[Act.put,List.setIfInBounds_toArray,List.set_cons_zero,List.set_cons_succ]
  refine wpAnyH_take (i:=8) (v:=?_) A5 kR kR kR A6 (Or.inl ⟨rF,?_⟩) A7 ?_
  rotate_left 1
  ·(intro wS hSw;(try dsimp only at hSw);go_simp;try(with_reducible rfl))
  try simp only[Act.put,List.setIfInBounds_toArray,List.set_cons_zero,List.set_cons_succ]
  refine wpAnyH_take (i:=9) (v:=?_) A5 kR kR kR A6 (Or.inl ⟨rF,?_⟩) A7 ?_
  rotate_left 1
  ·(intro wS hSw;(try dsimp only at hSw);go_simp;try(with_reducible rfl))
  try simp only[Act.put,List.setIfInBounds_toArray,List.set_cons_zero,List.set_cons_succ]
  refine wpAnyH_take (i:=10) (v:=?_) A5 kR kR kR A6 (Or.inl ⟨rF,?_⟩) A7 ?_
  rotate_left 1
  ·(intro wS hSw;(try dsimp only at hSw);go_simp;try(with_reducible rfl))
  try simp only[Act.put,List.setIfInBounds_toArray,List.set_cons_zero,List.set_cons_succ]
  refine wpAnyH_take (i:=11) (v:=?_) A5 kR kR kR A6 (Or.inl ⟨rF,?_⟩) A7 ?_
  rotate_left 1
  ·(intro wS hSw;(try dsimp only at hSw);go_simp;try(with_reducible rfl))
  try simp only[Act.put,List.setIfInBounds_toArray,List.set_cons_zero,List.set_cons_succ]
  refine wpAnyH_take (i:=12) (v:=?_) A5 kR kR kR A6 (Or.inl ⟨rF,?_⟩) A7 ?_
  rotate_left 1
  ·(intro wS hSw;(try dsimp only at hSw);go_simp;try(with_reducible rfl))
  try simp only[Act.put,List.setIfInBounds_toArray,List.set_cons_zero,List.set_cons_succ]
  refine wpAnyH_take (i:=13) (v:=?_) A5 kR kR kR A6 (Or.inl ⟨rF,?_⟩) A7 ?_
  rotate_left 1
  ·(intro wS hSw;(try dsimp only at hSw);go_simp;try(with_reducible rfl))
  try simp only[Act.put,List.setIfInBounds_toArray,List.set_cons_zero,List.set_cons_succ]
  refine wpAnyH_take (i:=14) (v:=?_) A5 kR kR kR A6 (Or.inl ⟨rF,?_⟩) A7 ?_
  rotate_left 1
  ·(intro wS hSw;(try dsimp only at hSw);go_simp;try(with_reducible rfl))
  try simp only[Act.put,List.setIfInBounds_toArray,List.set_cons_zero,List.set_cons_succ]
  refine wpAnyH_take (i:=15) (v:=?_) A5 kR kR kR A6 (Or.inl ⟨rF,?_⟩) A7 ?_
  rotate_left 1
  ·(intro wS hSw;(try dsimp only at hSw);go_simp;try(with_reducible rfl))
  try simp only[Act.put,List.setIfInBounds_toArray,List.set_cons_zero,List.set_cons_succ]
  refine wpAnyH_take (i:=16) (v:=?_) A5 kR kR kR A6 (Or.inl ⟨rF,?_⟩) A7 ?_
  rotate_left 1
  ·(intro wS hSw;(try dsimp only at hSw);go_simp;try(with_reducible rfl))
  try simp only[Act.put,List.setIfInBounds_toArray,List.set_cons_zero,List.set_cons_succ]
  refine wpAnyH_take (i:=17) (v:=?_) A5 kR kR kR A6 (Or.inl ⟨rF,?_⟩) A7 ?_
  rotate_left 1
  ·(intro wS hSw;(try dsimp only at hSw);go_simp;try(with_reducible rfl))
  try simp only[Act.put,List.setIfInBounds_toArray,List.set_cons_zero,List.set_cons_succ]
  refine wpAnyH_take (i:=18) (v:=?_) A5 kR kR kR A6 (Or.inl ⟨rF,?_⟩) A7 ?_
  rotate_left 1
  ·(intro wS hSw;(try dsimp only at hSw);go_simp;try(with_reducible rfl))
  try simp only[Act.put,List.setIfInBounds_toArray,List.set_cons_zero,List.set_cons_succ]
  refine wpAnyH_done kR ?_ _;go_wp2;go_ret;exact⟨A9 sM,bel (A0 _ _) (Aa _)⟩
 .have h1':(n==1)=false:=by simpa using h1
  clear hp hcv hcc h0 h1;go_enter func80,ntmps80;go_wp2;refine rG (fun v=>v.cell? ⟨C,0,none⟩=some v0) fun hJ=>?_;refine wpAnyH_take (i:=0) (v:=?_) A5 kR kR kR A6 (Or.inl ⟨rF,?_⟩) A7 ?_
  rotate_left 1
  ·(intro wS hSw;(try dsimp only at hSw);go_simp;try(with_reducible rfl))
  try simp only[Act.put,List.setIfInBounds_toArray,List.set_cons_zero,List.set_cons_succ]
  refine wpAnyH_take (i:=1) (v:=?_) A5 kR kR kR A6 (Or.inl ⟨rF,?_⟩) A7 ?_
  rotate_left 1
  ·(intro wS hSw;(try dsimp only at hSw);go_simp;try(with_reducible rfl))
  try simp only[Act.put,List.setIfInBounds_toArray,List.set_cons_zero,List.set_cons_succ]
  refine wpAnyH_take (i:=2) (v:=?_) A5 kR kR kR A6 (Or.inl ⟨rF,?_⟩) A7 ?_
  rotate_left 1
  ·(intro wS hSw;(try dsimp only at hSw);go_simp;try(with_reducible rfl))
  try simp only[Act.put,List.setIfInBounds_toArray,List.set_cons_zero,List.set_cons_succ]
  refine wpAnyH_take (i:=3) (v:=?_) A5 kR kR kR A6 (Or.inl ⟨rF,?_⟩) A7 ?_
  rotate_left 1
  ·(intro wS hSw;(try dsimp only at hSw);go_simp;try(with_reducible rfl))
  try simp only[Act.put,List.setIfInBounds_toArray,List.set_cons_zero,List.set_cons_succ]
  refine wpAnyH_take (i:=4) (v:=?_) A5 kR kR kR A6 (Or.inl ⟨rF,?_⟩) A7 ?_
  rotate_left 1
  ·(intro wS hSw;(try dsimp only at hSw);go_simp;try(with_reducible rfl))
  try simp only[Act.put,List.setIfInBounds_toArray,List.set_cons_zero,List.set_cons_succ]
  refine wpAnyH_take (i:=5) (v:=?_) A5 kR kR kR A6 (Or.inl ⟨rF,?_⟩) A7 ?_
  rotate_left 1
  ·(intro wS hSw;(try dsimp only at hSw);go_simp;try(with_reducible rfl))
  try simp only[Act.put,List.setIfInBounds_toArray,List.set_cons_zero,List.set_cons_succ]
  refine wpAnyH_take (i:=6) (v:=undef) A5 kR kR kR A6 (Or.inr ⟨rF,rfl⟩) A7 ?_;try simp only[Act.put,List.setIfInBounds_toArray,List.set_cons_zero,List.set_cons_succ]
  refine wpAnyH_take (i:=7) (v:=undef) A5 kR kR kR A6 (Or.inr ⟨rF,rfl⟩) A7 ?_;try simp only[Act.put,List.setIfInBounds_toArray,List.set_cons_zero,List.set_cons_succ]
  refine wpAnyH_take (i:=8) (v:=undef) A5 kR kR kR A6 (Or.inr ⟨rF,rfl⟩) A7 ?_;try simp only[Act.put,List.setIfInBounds_toArray,List.set_cons_zero,List.set_cons_succ]
  refine wpAnyH_take (i:=9) (v:=undef) A5 kR kR kR A6 (Or.inr ⟨rF,rfl⟩) A7 ?_;try simp only[Act.put,List.setIfInBounds_toArray,List.set_cons_zero,List.set_cons_succ]
  refine wpAnyH_take (i:=10) (v:=undef) A5 kR kR kR A6 (Or.inr ⟨rF,rfl⟩) A7 ?_;try simp only[Act.put,List.setIfInBounds_toArray,List.set_cons_zero,List.set_cons_succ]
  refine wpAnyH_take (i:=11) (v:=undef) A5 kR kR kR A6 (Or.inr ⟨rF,rfl⟩) A7 ?_;try simp only[Act.put,List.setIfInBounds_toArray,List.set_cons_zero,List.set_cons_succ]
  refine wpAnyH_take (i:=12) (v:=undef) A5 kR kR kR A6 (Or.inr ⟨rF,rfl⟩) A7 ?_;try simp only[Act.put,List.setIfInBounds_toArray,List.set_cons_zero,List.set_cons_succ]
  refine wpAnyH_take (i:=13) (v:=undef) A5 kR kR kR A6 (Or.inr ⟨rF,rfl⟩) A7 ?_;try simp only[Act.put,List.setIfInBounds_toArray,List.set_cons_zero,List.set_cons_succ]
  refine wpAnyH_take (i:=14) (v:=undef) A5 kR kR kR A6 (Or.inr ⟨rF,rfl⟩) A7 ?_;try simp only[Act.put,List.setIfInBounds_toArray,List.set_cons_zero,List.set_cons_succ]
  refine wpAnyH_take (i:=15) (v:=undef) A5 kR kR kR A6 (Or.inr ⟨rF,rfl⟩) A7 ?_;try simp only[Act.put,List.setIfInBounds_toArray,List.set_cons_zero,List.set_cons_succ]
  refine wpAnyH_take (i:=16) (v:=?_) A5 kR kR kR A6 (Or.inl ⟨rF,?_⟩) A7 ?_
  rotate_left 1
  ·(intro wS hSw;(try dsimp only at hSw);go_simp;try(with_reducible rfl))
  try simp only[Act.put,List.setIfInBounds_toArray,List.set_cons_zero,List.set_cons_succ]
  refine wpAnyH_take (i:=17) (v:=?_) A5 kR kR kR A6 (Or.inl ⟨rF,?_⟩) A7 ?_
  rotate_left 1
  ·(intro wS hSw;(try dsimp only at hSw);go_simp;try(with_reducible rfl))
  try simp only[Act.put,List.setIfInBounds_toArray,List.set_cons_zero,List.set_cons_succ]
  refine wpAnyH_take (i:=18) (v:=?_) A5 kR kR kR A6 (Or.inl ⟨rF,?_⟩) A7 ?_
  rotate_left 1
  ·(intro wS hSw;(try dsimp only at hSw);go_simp;try(with_reducible rfl))
  try simp only[Act.put,List.setIfInBounds_toArray,List.set_cons_zero,List.set_cons_succ]
  refine wpAnyH_done kR ?_ _;go_wp2;go_ret;exact⟨A9 (by simp[h0',h1']),bel (A0 _ _) (Aa _)⟩
theorem Fj(C:Nat)(v0 v1 v2 v3:Value)(c:Cd)(hk:AJ c)(n:Int)(m:Ty)(w:World)(hc:AM w C v0 v1 v2 v3 c):
 Calls prog 80 #[.pointer (some ⟨C,0,none⟩),.int .i64 n,.int .i64 10,BI m] w fun e w'=>e=.returned (.bool (Ae n c.slots.length&&decide (Cm c.slots n=m)))/\Below w.heap.size w w':=by
 obtain⟨hcc,hcv⟩:=hc;have c1:=hcc.at 2 rfl;rw[Nat.zero_add]at c1;have hC:=Ac c1;simp only at hC;have n1:C≠w.heap.size:=oM;have HB:=hk.slotsL;have K1:=Bi n c.slots.length;have hr:=hcv.slots;obtain⟨p,q,rfl,hrr⟩:=hcv.slots;obtain⟨X,hX⟩:=gA (Ae n c.slots.length)
 simp only[hX]at K1;rw[hX];obtain⟨K,P⟩:=m;unfold BI;simp only;cases X
 .clear hr hrr hcc hcv;obtain⟨N,hN⟩:=gA (c.slots.length)
  rw[hN]at K1 c1 HB;have HK:Hid (∀w,Calls prog 76 #[.int .i64 n,.int .i64 N] w fun e w'=>e=.returned (.bool false)/\w'=w):=K1;clear hN K1 hX hk;have f1:(w.alloc (.cells #[.int .i64 K,.int .i64 P] 47)).cell? ⟨C,2,none⟩=some (.slice p N q):=kc (A0 _ _) c1;go_enter func80,ntmps80;go_wp2;refine rG (fun v=>v.cell? ⟨C,2,none⟩=some (.slice p N q)) fun hJ=>?_;exact LY
 .obtain⟨k,hnk,hkl⟩:=Bz hX;rw[IP hnk hkl];obtain⟨b,o,hp,hx⟩:=hr.at hkl;subst hp;subst hnk;have x0:=hx.at 0 rfl;have x1:=hx.at 1 rfl;rw[Nat.add_zero]at x0;have hbl:=Ac x0;simp only at hbl;have n2:b≠w.heap.size:=oM;obtain⟨T,hT⟩:=gA (c.slots[k].ty)
  rw[hT]at x0 x1 |-;obtain⟨D,E⟩:=T;simp only at x0 x1;rw[IV];obtain⟨N,hN⟩:=gA (c.slots.length)
  rw[hN]at K1 c1 HB hkl;have HK:Hid (∀w,Calls prog 76 #[.int .i64 (k:Int),.int .i64 N] w fun e w'=>e=.returned (.bool true)/\w'=w):=K1;have f1:(w.alloc (.cells #[.int .i64 K,.int .i64 P] 47)).cell? ⟨C,2,none⟩=some (.slice (some ⟨b,o,none⟩) N q):=kc (A0 _ _) c1;have f2:(w.alloc (.cells #[.int .i64 K,.int .i64 P] 47)).cell? ⟨b,o+k*5,none⟩=some (.int .i64 D):=kc (A0 _ _) x0;have f3:(w.alloc (.cells #[.int .i64 K,.int .i64 P] 47)).cell? ⟨b,o+k*5+1,none⟩=some (.int .i64 E):=kc (A0 _ _) x1;have i1:(0:Int)<=(k:Int):=oM;have i2:(k:Int)<(N:Int):=oM;clear hN K1 hX hr hrr hcc hcv hx hT hk;cases hl:(D==K)<;>cases hq:(E==P)
  all_goals
   go_enter func80,ntmps80;go_wp2;refine rG (fun v=>v.cell? ⟨C,2,none⟩=some (.slice (some ⟨b,o,none⟩) N q)/\v.cell? ⟨b,o+k*5,none⟩=some (.int .i64 D)/\v.cell? ⟨b,o+k*5+1,none⟩=some (.int .i64 E)/\v.cell? ⟨w.heap.size,0,none⟩=some (.int .i64 K)/\v.cell? ⟨w.heap.size,1,none⟩=some (.int .i64 P)) fun hJ=>?_;refine wpAnyH_take (i:=0) (v:=?_) A5 kR kR kR A6 (Or.inl ⟨rF,?_⟩) A7 ?_
   rotate_left 1
   ·(intro wS hSw;(try dsimp only at hSw);go_simp;try(with_reducible rfl))
   try simp only[Act.put,List.setIfInBounds_toArray,List.set_cons_zero,List.set_cons_succ]
   refine wpAnyH_take (i:=1) (v:=?_) A5 kR kR kR A6 (Or.inl ⟨rF,?_⟩) A7 ?_
   rotate_left 1
   ·(intro wS hSw;(try dsimp only at hSw);go_simp;try(with_reducible rfl))
   try simp only[Act.put,List.setIfInBounds_toArray,List.set_cons_zero,List.set_cons_succ]
   refine wpAnyH_take (i:=2) (v:=?_) A5 kR kR kR A6 (Or.inl ⟨rF,?_⟩) A7 ?_
   rotate_left 1
   ·(intro wS hSw;(try dsimp only at hSw);go_simp;try(with_reducible rfl))
   try simp only[Act.put,List.setIfInBounds_toArray,List.set_cons_zero,List.set_cons_succ]
   refine wpAnyH_take (i:=3) (v:=?_) A5 kR kR kR A6 (Or.inl ⟨rF,?_⟩) A7 ?_
   rotate_left 1
   ·(intro wS hSw;(try dsimp only at hSw);go_simp;try(with_reducible rfl))
   try simp only[Act.put,List.setIfInBounds_toArray,List.set_cons_zero,List.set_cons_succ]
   refine wpAnyH_take (i:=4) (v:=?_) A5 kR kR kR A6 (Or.inl ⟨rF,?_⟩) A7 ?_
   rotate_left 1
   ·(intro wS hSw;(try dsimp only at hSw);go_simp;try(with_reducible rfl))
   try simp only[Act.put,List.setIfInBounds_toArray,List.set_cons_zero,List.set_cons_succ]
   refine wpAnyH_take (i:=5) (v:=?_) A5 kR kR kR A6 (Or.inl ⟨rF,?_⟩) A7 ?_
   rotate_left 1
   ·(intro wS hSw;(try dsimp only at hSw);go_simp;try(with_reducible rfl))
   try simp only[Act.put,List.setIfInBounds_toArray,List.set_cons_zero,List.set_cons_succ]
   clear hJ;refine AH 6 fun K hK=>?_;go_simp;(go_at_call 76;refine(HK.out _).mono ?_;rintro e w1 ⟨rfl,rfl⟩);try(go_wp2_with fail)
   refine AO hK fun hJ=>?_;clear hK K;refine wpAnyH_take (i:=7) (v:=?_) A5 kR kR kR A6 (Or.inl ⟨rF,?_⟩) A7 ?_
   rotate_left 1
   ·(intro wS hSw;(try dsimp only at hSw);go_simp;try(with_reducible rfl))
   try simp only[Act.put,List.setIfInBounds_toArray,List.set_cons_zero,List.set_cons_succ]
   refine wpAnyH_take (i:=8) (v:=?_) A5 kR kR kR A6 (Or.inl ⟨rF,?_⟩) A7 ?_
   rotate_left 1
   ·(intro wS hSw;(try dsimp only at hSw);go_simp;try(with_reducible rfl))
   try simp only[Act.put,List.setIfInBounds_toArray,List.set_cons_zero,List.set_cons_succ]
   refine wpAnyH_take (i:=9) (v:=?_) A5 kR kR kR A6 (Or.inl ⟨rF,?_⟩) A7 ?_
   rotate_left 1
   ·(intro wS hSw;(try dsimp only at hSw);go_simp;try(with_reducible rfl))
   try simp only[Act.put,List.setIfInBounds_toArray,List.set_cons_zero,List.set_cons_succ]
   refine wpAnyH_take (i:=10) (v:=?_) A5 kR kR kR A6 (Or.inl ⟨rF,?_⟩) A7 ?_
   rotate_left 1
   ·(intro wS hSw;(try dsimp only at hSw);go_simp;try(with_reducible rfl))
   try simp only[Act.put,List.setIfInBounds_toArray,List.set_cons_zero,List.set_cons_succ]
   refine wpAnyH_take (i:=11) (v:=?_) A5 kR kR kR A6 (Or.inl ⟨rF,?_⟩) A7 ?_
   rotate_left 1
   ·(intro wS hSw;(try dsimp only at hSw);go_simp;try(with_reducible rfl))
   try simp only[Act.put,List.setIfInBounds_toArray,List.set_cons_zero,List.set_cons_succ]
   refine wpAnyH_take (i:=12) (v:=?_) A5 kR kR kR A6 (Or.inl ⟨rF,?_⟩) A7 ?_
   rotate_left 1
   ·(intro wS hSw;(try dsimp only at hSw);go_simp;try(with_reducible rfl))
   try simp only[Act.put,List.setIfInBounds_toArray,List.set_cons_zero,List.set_cons_succ]
   refine wpAnyH_take (i:=13) (v:=?_) A5 kR kR kR A6 (Or.inl ⟨rF,?_⟩) A7 ?_
   rotate_left 1
   ·(intro wS hSw;(try dsimp only at hSw);go_simp;try(with_reducible rfl))
   try simp only[Act.put,List.setIfInBounds_toArray,List.set_cons_zero,List.set_cons_succ]
   refine wpAnyH_take (i:=14) (v:=?_) A5 kR kR kR A6 (Or.inl ⟨rF,?_⟩) A7 ?_
   rotate_left 1
   ·(intro wS hSw;(try dsimp only at hSw);go_simp;try(with_reducible rfl))
   try simp only[Act.put,List.setIfInBounds_toArray,List.set_cons_zero,List.set_cons_succ]
   refine wpAnyH_take (i:=15) (v:=?_) A5 kR kR kR A6 (Or.inl ⟨rF,?_⟩) A7 ?_
   rotate_left 1
   ·(intro wS hSw;(try dsimp only at hSw);go_simp;try(with_reducible rfl))
   try simp only[Act.put,List.setIfInBounds_toArray,List.set_cons_zero,List.set_cons_succ]
   refine wpAnyH_take (i:=16) (v:=?_) A5 kR kR kR A6 (Or.inl ⟨rF,?_⟩) A7 ?_
   rotate_left 1
   ·(intro wS hSw;(try dsimp only at hSw);go_simp;try(with_reducible rfl))
   try simp only[Act.put,List.setIfInBounds_toArray,List.set_cons_zero,List.set_cons_succ]
   refine wpAnyH_take (i:=17) (v:=?_) A5 kR kR kR A6 (Or.inl ⟨rF,?_⟩) A7 ?_
   rotate_left 1
   ·(intro wS hSw;(try dsimp only at hSw);go_simp;try(with_reducible rfl))
   try simp only[Act.put,List.setIfInBounds_toArray,List.set_cons_zero,List.set_cons_succ]
   refine wpAnyH_take (i:=18) (v:=?_) A5 kR kR kR A6 (Or.inl ⟨rF,?_⟩) A7 ?_
   rotate_left 1
   ·(intro wS hSw;(try dsimp only at hSw);go_simp;try(with_reducible rfl))
   try simp only[Act.put,List.setIfInBounds_toArray,List.set_cons_zero,List.set_cons_succ]
   refine wpAnyH_take (i:=19) (v:=?_) A5 kR kR kR A6 (Or.inl ⟨rF,?_⟩) A7 ?_
   rotate_left 1
   ·(intro wS hSw;(try dsimp only at hSw);go_simp;try(with_reducible rfl))
   try simp only[Act.put,List.setIfInBounds_toArray,List.set_cons_zero,List.set_cons_succ]
   refine wpAnyH_done kR ?_ _;go_wp2;go_ret;exact⟨A9 (by simp[hl,hq]),bel (A0 _ _) (Aa _)⟩
theorem GI(C:Nat)(v0 v1 v2 v3:Value)(c:Cd)(hk:AJ c)(n l:Int)(m:Ty)(w:World)(hc:AM w C v0 v1 v2 v3 c)(hp:l=9->Ae m.par c.sign.length=true):
 Calls prog 80 #[.pointer (some ⟨C,0,none⟩),.int .i64 n,.int .i64 l,BI m] w fun e w'=>e=.returned (.bool (ED c n l m))/\Below w.heap.size w w':=by
 unfold ED;by_cases h8:l=8
 .subst h8;rw[if_pos rfl];have HK:Hid (∀w,Calls prog 77 #[.int .i64 n] w fun e w'=>e=.returned (.bool (BC n))/\w'=w):=Dk n;unfold BI;clear hp hc;go_enter func80,ntmps80;go_wp2_with(go_at_call 77;refine(HK.out _).mono ?_;rintro e w1 ⟨rfl,rfl⟩);go_ret;exact⟨rfl,A0 _ _⟩
 rw[if_neg h8];by_cases h9:l=9
 .subst h9;rw[if_pos rfl];exact Fh C v0 v1 v2 v3 c hk n m w hc fun _=>hp rfl
 rw[if_neg h9];by_cases h10:l=10
 .subst h10;rw[if_pos rfl];exact Fj C v0 v1 v2 v3 c hk n m w hc
 rw[if_neg h10];have h8':(l==8)=false:=by simpa using h8
 have h9':(l==9)=false:=by simpa using h9
 have h10':(l==10)=false:=by simpa using h10
 clear h8 h9 h10 hp;by_cases h11:l=11
 .subst h11;rw[if_pos rfl];have K1:=Bi n c.sign.length;have HB:=hk.signL;obtain⟨hcc,hcv⟩:=hc;have c1:=hcc.at 0 rfl;rw[Nat.zero_add]at c1;have hC:=Ac c1;simp only at hC;have n1:C≠w.heap.size:=oM;obtain⟨p,q,rfl,hrr⟩:=hcv.sign;obtain⟨X,hX⟩:=gA (Ae n c.sign.length)
  simp only[hX]at K1;rw[hX];obtain⟨N,hN⟩:=gA (c.sign.length)
  rw[hN]at K1 c1 HB;have HK:Hid (∀w,Calls prog 76 #[.int .i64 n,.int .i64 N] w fun e w'=>e=.returned (.bool X)/\w'=w):=K1;clear hN K1 hX hrr hcc hcv hk h8' h9' h10';unfold BI;go_enter func80,ntmps80;exact Ms
 rw[if_neg h11];have h11':(l==11)=false:=by simpa using h11
 clear h11 hc;unfold BI;go_enter func80,ntmps80;go_wp2;go_ret;exact⟨rfl,A0 _ _⟩
theorem Eg(C:Nat)(v0 v1 v2 v3:Value)(c:Cd)(hk:AJ c)(b o:Nat)(i:Ay)(l:Int)(m:Ty)(w:World)(hc:AM w C v0 v1 v2 v3 c)(hi:Al w b o (C9 i))(h0:0<=i.bits)(h1:i.bits<4294967296)(hp:l=9->Ae m.par c.sign.length=true):
 Calls prog 64 #[.pointer (some ⟨C,0,none⟩),.pointer (some ⟨b,o,none⟩),.int .i64 l,BI m] w fun e w'=>e=.returned (.bool (B8 c i l m))/\Below w.heap.size w w':=by
 have e5:=hi.at 5 rfl;have e6:=hi.at 6 rfl;have hb:=Ac e5;simp only at hb;have n1:b≠w.heap.size:=oM;have K1:=DD i.bits h0 h1;have K2:=fun w h=>GI C v0 v1 v2 v3 c hk i.n l m w h hp;unfold B8;obtain⟨X,hX⟩:=gA (B1 i.bits)
 obtain⟨Y,hY⟩:=gA (ED c i.n l m)
 simp only[hX]at K1 |-;simp only[hY]at K2 |-;obtain⟨bt,hbt⟩:∃x,i.bits=x:=⟨_,rfl⟩
 obtain⟨n,hn⟩:∃x,i.n=x:=⟨_,rfl⟩
 rw[hbt]at e6 K1 |-;rw[hn]at e5 K2 |-;have HK:Hid (∀w,Calls prog 78 #[.int .u32 bt] w fun e w'=>e=.returned (.bool X)/\w'=w):=K1;obtain⟨K,P⟩:=m;unfold BI at K2 |-;simp only at K2 |-;have HN:Hid (∀w,AM w C v0 v1 v2 v3 c->Calls prog 80 #[.pointer (some ⟨C,0,none⟩),.int .i64 n,.int .i64 l,.agg #[.int .i64 K,.int .i64 P]] w fun e w'=>e=.returned (.bool Y)/\Below w.heap.size w w'):=K2;have f5:(w.alloc (.cells #[.int .i64 K,.int .i64 P] 47)).cell? ⟨b,o+5,none⟩=some (.int .i64 n):=kc (A0 _ _) e5;have f6:(w.alloc (.cells #[.int .i64 K,.int .i64 P] 47)).cell? ⟨b,o+6,none⟩=some (.int .u32 bt):=kc (A0 _ _) e6;have HC0:Hid (AM w C v0 v1 v2 v3 c):=hc;clear K1 K2 hX hY hbt hn hi hp h0 h1 hk hc;by_cases h7:l=7
 .subst h7;rw[if_pos rfl];clear HN;cases hz:(n==0)
  all_goals
   go_enter func64,ntmps64;go_wp2_with(go_at_call 78;refine(HK.out _).mono ?_;rintro e w1 ⟨rfl,rfl⟩);go_ret;exact⟨A9 (by simp[hz]),A0 _ _⟩
 rw[if_neg h7];have h7':(l==7)=false:=by simpa using h7
 clear h7 HK;cases hz:(bt==0)
 .go_enter func64,ntmps64;go_wp2;refine rG (fun v=>v.cell? ⟨b,o+5,none⟩=some (.int .i64 n)/\v.cell? ⟨b,o+6,none⟩=some (.int .u32 bt)) fun hJ=>?_;refine wpAnyH_take (i:=0) (v:=?_) A5 kR kR kR A6 (Or.inl ⟨rF,?_⟩) A7 ?_
  rotate_left 1
  ·(intro wS hSw;(try dsimp only at hSw);go_simp;try(with_reducible rfl))
  try simp only[Act.put,List.setIfInBounds_toArray,List.set_cons_zero,List.set_cons_succ]
  refine wpAnyH_take (i:=1) (v:=?_) A5 kR kR kR A6 (Or.inl ⟨rF,?_⟩) A7 ?_
  rotate_left 1
  ·(intro wS hSw;(try dsimp only at hSw);go_simp;try(with_reducible rfl))
  try simp only[Act.put,List.setIfInBounds_toArray,List.set_cons_zero,List.set_cons_succ]
  refine wpAnyH_take (i:=2) (v:=?_) A5 kR kR kR A6 (Or.inl ⟨rF,?_⟩) A7 ?_
  rotate_left 1
  ·(intro wS hSw;(try dsimp only at hSw);go_simp;try(with_reducible rfl))
  try simp only[Act.put,List.setIfInBounds_toArray,List.set_cons_zero,List.set_cons_succ]
  refine wpAnyH_take (i:=3) (v:=?_) A5 kR kR kR A6 (Or.inl ⟨rF,?_⟩) A7 ?_
  rotate_left 1
  ·(intro wS hSw;(try dsimp only at hSw);go_simp;try(with_reducible rfl))
  try simp only[Act.put,List.setIfInBounds_toArray,List.set_cons_zero,List.set_cons_succ]
  refine wpAnyH_take (i:=4) (v:=?_) A5 kR kR kR A6 (Or.inl ⟨rF,?_⟩) A7 ?_
  rotate_left 1
  ·(intro wS hSw;(try dsimp only at hSw);go_simp;try(with_reducible rfl))
  try simp only[Act.put,List.setIfInBounds_toArray,List.set_cons_zero,List.set_cons_succ]
  refine wpAnyH_take (i:=5) (v:=?_) A5 kR kR kR A6 (Or.inl ⟨rF,?_⟩) A7 ?_
  rotate_left 1
  ·(intro wS hSw;(try dsimp only at hSw);go_simp;try(with_reducible rfl))
  try simp only[Act.put,List.setIfInBounds_toArray,List.set_cons_zero,List.set_cons_succ]
  refine wpAnyH_take (i:=6) (v:=undef) A5 kR kR kR A6 (Or.inr ⟨rF,rfl⟩) A7 ?_;try simp only[Act.put,List.setIfInBounds_toArray,List.set_cons_zero,List.set_cons_succ]
  refine wpAnyH_take (i:=7) (v:=undef) A5 kR kR kR A6 (Or.inr ⟨rF,rfl⟩) A7 ?_;try simp only[Act.put,List.setIfInBounds_toArray,List.set_cons_zero,List.set_cons_succ]
  refine wpAnyH_take (i:=8) (v:=undef) A5 kR kR kR A6 (Or.inr ⟨rF,rfl⟩) A7 ?_;try simp only[Act.put,List.setIfInBounds_toArray,List.set_cons_zero,List.set_cons_succ]
  refine wpAnyH_take (i:=9) (v:=undef) A5 kR kR kR A6 (Or.inr ⟨rF,rfl⟩) A7 ?_;try simp only[Act.put,List.setIfInBounds_toArray,List.set_cons_zero,List.set_cons_succ]
  refine wpAnyH_take (i:=10) (v:=undef) A5 kR kR kR A6 (Or.inr ⟨rF,rfl⟩) A7 ?_;try simp only[Act.put,List.setIfInBounds_toArray,List.set_cons_zero,List.set_cons_succ]
  refine wpAnyH_take (i:=11) (v:=undef) A5 kR kR kR A6 (Or.inr ⟨rF,rfl⟩) A7 ?_;try simp only[Act.put,List.setIfInBounds_toArray,List.set_cons_zero,List.set_cons_succ]
  refine wpAnyH_take (i:=12) (v:=undef) A5 kR kR kR A6 (Or.inr ⟨rF,rfl⟩) A7 ?_;try simp only[Act.put,List.setIfInBounds_toArray,List.set_cons_zero,List.set_cons_succ]
  refine wpAnyH_take (i:=13) (v:=undef) A5 kR kR kR A6 (Or.inr ⟨rF,rfl⟩) A7 ?_;try simp only[Act.put,List.setIfInBounds_toArray,List.set_cons_zero,List.set_cons_succ]
  refine wpAnyH_take (i:=14) (v:=?_) A5 kR kR kR A6 (Or.inl ⟨rF,?_⟩) A7 ?_
  rotate_left 1
  ·(intro wS hSw;(try dsimp only at hSw);go_simp;try(with_reducible rfl))
  try simp only[Act.put,List.setIfInBounds_toArray,List.set_cons_zero,List.set_cons_succ]
  refine wpAnyH_take (i:=15) (v:=?_) A5 kR kR kR A6 (Or.inl ⟨rF,?_⟩) A7 ?_
  rotate_left 1
  ·(intro wS hSw;(try dsimp only at hSw);go_simp;try(with_reducible rfl))
  try simp only[Act.put,List.setIfInBounds_toArray,List.set_cons_zero,List.set_cons_succ]
  refine wpAnyH_done kR ?_ _;go_wp2;go_ret;exact⟨A9 (by simp[hz]),bel (A0 _ _) (Aa _)⟩
 .go_enter func64,ntmps64;go_wp2;have HC:Hid (∀v,Below (w.alloc (.cells #[.int .i64 K,.int .i64 P] 47)).heap.size (w.alloc (.cells #[.int .i64 K,.int .i64 P] 47)) v->v.cell? ⟨b,o+5,none⟩=some (.int .i64 n)/\v.cell? ⟨b,o+6,none⟩=some (.int .u32 bt)/\v.cell? ⟨w.heap.size,0,none⟩=some (.int .i64 K)/\v.cell? ⟨w.heap.size,1,none⟩=some (.int .i64 P)):=
   fun v hv=>⟨kc hv f5,kc hv f6,kc hv sG,kc hv sG⟩
  refine rG (fun v=>v.cell? ⟨b,o+5,none⟩=some (.int .i64 n)/\v.cell? ⟨b,o+6,none⟩=some (.int .u32 bt)/\v.cell? ⟨w.heap.size,0,none⟩=some (.int .i64 K)/\v.cell? ⟨w.heap.size,1,none⟩=some (.int .i64 P)) fun hJ=>?_;refine wpAnyH_take (i:=0) (v:=?_) A5 kR kR kR A6 (Or.inl ⟨rF,?_⟩) A7 ?_
  rotate_left 1
  ·(intro wS hSw;(try dsimp only at hSw);go_simp;try(with_reducible rfl))
  try simp only[Act.put,List.setIfInBounds_toArray,List.set_cons_zero,List.set_cons_succ]
  refine wpAnyH_take (i:=1) (v:=?_) A5 kR kR kR A6 (Or.inl ⟨rF,?_⟩) A7 ?_
  rotate_left 1
  ·(intro wS hSw;(try dsimp only at hSw);go_simp;try(with_reducible rfl))
  try simp only[Act.put,List.setIfInBounds_toArray,List.set_cons_zero,List.set_cons_succ]
  refine wpAnyH_take (i:=2) (v:=?_) A5 kR kR kR A6 (Or.inl ⟨rF,?_⟩) A7 ?_
  rotate_left 1
  ·(intro wS hSw;(try dsimp only at hSw);go_simp;try(with_reducible rfl))
  try simp only[Act.put,List.setIfInBounds_toArray,List.set_cons_zero,List.set_cons_succ]
  refine wpAnyH_take (i:=3) (v:=?_) A5 kR kR kR A6 (Or.inl ⟨rF,?_⟩) A7 ?_
  rotate_left 1
  ·(intro wS hSw;(try dsimp only at hSw);go_simp;try(with_reducible rfl))
  try simp only[Act.put,List.setIfInBounds_toArray,List.set_cons_zero,List.set_cons_succ]
  refine wpAnyH_take (i:=4) (v:=?_) A5 kR kR kR A6 (Or.inl ⟨rF,?_⟩) A7 ?_
  rotate_left 1
  ·(intro wS hSw;(try dsimp only at hSw);go_simp;try(with_reducible rfl))
  try simp only[Act.put,List.setIfInBounds_toArray,List.set_cons_zero,List.set_cons_succ]
  refine wpAnyH_take (i:=5) (v:=?_) A5 kR kR kR A6 (Or.inl ⟨rF,?_⟩) A7 ?_
  rotate_left 1
  ·(intro wS hSw;(try dsimp only at hSw);go_simp;try(with_reducible rfl))
  try simp only[Act.put,List.setIfInBounds_toArray,List.set_cons_zero,List.set_cons_succ]
  refine wpAnyH_take (i:=6) (v:=?_) A5 kR kR kR A6 (Or.inl ⟨rF,?_⟩) A7 ?_
  rotate_left 1
  ·(intro wS hSw;(try dsimp only at hSw);go_simp;try(with_reducible rfl))
  try simp only[Act.put,List.setIfInBounds_toArray,List.set_cons_zero,List.set_cons_succ]
  refine wpAnyH_take (i:=7) (v:=?_) A5 kR kR kR A6 (Or.inl ⟨rF,?_⟩) A7 ?_
  rotate_left 1
  ·(intro wS hSw;(try dsimp only at hSw);go_simp;try(with_reducible rfl))
  try simp only[Act.put,List.setIfInBounds_toArray,List.set_cons_zero,List.set_cons_succ]
  refine wpAnyH_take (i:=8) (v:=?_) A5 kR kR kR A6 (Or.inl ⟨rF,?_⟩) A7 ?_
  rotate_left 1
  ·(intro wS hSw;(try dsimp only at hSw);go_simp;try(with_reducible rfl))
  try simp only[Act.put,List.setIfInBounds_toArray,List.set_cons_zero,List.set_cons_succ]
  refine wpAnyH_take (i:=9) (v:=?_) A5 kR kR kR A6 (Or.inl ⟨rF,?_⟩) A7 ?_
  rotate_left 1
  ·(intro wS hSw;(try dsimp only at hSw);go_simp;try(with_reducible rfl))
  try simp only[Act.put,List.setIfInBounds_toArray,List.set_cons_zero,List.set_cons_succ]
  refine wpAnyH_take (i:=10) (v:=?_) A5 kR kR kR A6 (Or.inl ⟨rF,?_⟩) A7 ?_
  rotate_left 1
  ·(intro wS hSw;(try dsimp only at hSw);go_simp;try(with_reducible rfl))
  try simp only[Act.put,List.setIfInBounds_toArray,List.set_cons_zero,List.set_cons_succ]
  refine wpAnyH_take (i:=11) (v:=?_) A5 kR kR kR A6 (Or.inl ⟨rF,?_⟩) A7 ?_
  rotate_left 1
  ·(intro wS hSw;(try dsimp only at hSw);go_simp;try(with_reducible rfl))
  try simp only[Act.put,List.setIfInBounds_toArray,List.set_cons_zero,List.set_cons_succ]
  refine wpAnyH_take (i:=12) (v:=?_) A5 kR kR kR A6 (Or.inl ⟨rF,?_⟩) A7 ?_
  rotate_left 1
  ·(intro wS hSw;(try dsimp only at hSw);go_simp;try(with_reducible rfl))
  try simp only[Act.put,List.setIfInBounds_toArray,List.set_cons_zero,List.set_cons_succ]
  clear hJ;refine AH 13 fun K hK=>?_;go_simp;(go_at_call 80;refine(HN.out _ ((HC0.below (A0 _ _)).below (Aa _))).mono ?_;rintro e w1 ⟨rfl,hb1⟩;have HB1:=bel (Aa _) hb1;obtain⟨y0,y1,y2,y3⟩:=HC.out w1 HB1);try(go_wp2_with fail)
  refine AO hK fun hJ=>?_;clear hK K;refine wpAnyH_take (i:=14) (v:=?_) A5 kR kR kR A6 (Or.inl ⟨rF,?_⟩) A7 ?_
  rotate_left 1
  ·(intro wS hSw;(try dsimp only at hSw);go_simp;try(with_reducible rfl))
  try simp only[Act.put,List.setIfInBounds_toArray,List.set_cons_zero,List.set_cons_succ]
  refine wpAnyH_take (i:=15) (v:=?_) A5 kR kR kR A6 (Or.inl ⟨rF,?_⟩) A7 ?_
  rotate_left 1
  ·(intro wS hSw;(try dsimp only at hSw);go_simp;try(with_reducible rfl))
  try simp only[Act.put,List.setIfInBounds_toArray,List.set_cons_zero,List.set_cons_succ]
  refine wpAnyH_done kR ?_ _;go_wp2;go_ret;exact⟨A9 (by simp[hz]),bel (A0 _ _) HB1⟩
theorem C6(b o:Nat)(i:Ay)(w:World)(hi:Al w b o (C9 i)):
 Calls prog 62 #[.pointer (some ⟨b,o,none⟩)] w fun e w'=>e=.returned (.agg #[.int .i64 i.d,.int .i64 i.a,.int .i64 i.b,.int .i64 i.c])/\Below w.heap.size w w':=by
 have e1:=hi.at 1 rfl;have e2:=hi.at 2 rfl;have e3:=hi.at 3 rfl;have e4:=hi.at 4 rfl;have hb:=Ac e1;simp only at hb;have n1:b≠w.heap.size:=oM;have f1:(w.alloc (.cells #[.int .i64 0,.int .i64 0,.int .i64 0,.int .i64 0] 109)).cell? ⟨b,o+1,none⟩=some (.int .i64 i.d):=kc (A0 w _) e1;have f2:(w.alloc (.cells #[.int .i64 0,.int .i64 0,.int .i64 0,.int .i64 0] 109)).cell? ⟨b,o+2,none⟩=some (.int .i64 i.a):=kc (A0 w _) e2;have f3:(w.alloc (.cells #[.int .i64 0,.int .i64 0,.int .i64 0,.int .i64 0] 109)).cell? ⟨b,o+3,none⟩=some (.int .i64 i.b):=kc (A0 w _) e3;have f4:(w.alloc (.cells #[.int .i64 0,.int .i64 0,.int .i64 0,.int .i64 0] 109)).cell? ⟨b,o+4,none⟩=some (.int .i64 i.c):=kc (A0 w _) e4;clear hi;go_enter func62,ntmps62;go_wp2;refine rG (fun v=>v.cell? ⟨b,o+1,none⟩=some (.int .i64 i.d)/\v.cell? ⟨b,o+2,none⟩=some (.int .i64 i.a)/\v.cell? ⟨b,o+3,none⟩=some (.int .i64 i.b)/\v.cell? ⟨b,o+4,none⟩=some (.int .i64 i.c)) fun hJ=>?_;refine wpAnyH_take (i:=0) (v:=?_) A5 kR kR kR A6 (Or.inl ⟨rF,?_⟩) A7 ?_
 rotate_left 1
 ·(intro wS hSw;(try dsimp only at hSw);go_simp;try(with_reducible rfl))
 try simp only[Act.put,List.setIfInBounds_toArray,List.set_cons_zero,List.set_cons_succ]
 refine wpAnyH_take (i:=1) (v:=?_) A5 kR kR kR A6 (Or.inl ⟨rF,?_⟩) A7 ?_
 rotate_left 1
 ·(intro wS hSw;(try dsimp only at hSw);go_simp;try(with_reducible rfl))
 try simp only[Act.put,List.setIfInBounds_toArray,List.set_cons_zero,List.set_cons_succ]
 refine wpAnyH_take (i:=2) (v:=?_) A5 kR kR kR A6 (Or.inl ⟨rF,?_⟩) A7 ?_
 rotate_left 1
 ·(intro wS hSw;(try dsimp only at hSw);go_simp;try(with_reducible rfl))
 try simp only[Act.put,List.setIfInBounds_toArray,List.set_cons_zero,List.set_cons_succ]
 refine wpAnyH_take (i:=3) (v:=?_) A5 kR kR kR A6 (Or.inl ⟨rF,?_⟩) A7 ?_
 rotate_left 1
 ·(intro wS hSw;(try dsimp only at hSw);go_simp;try(with_reducible rfl))
 try simp only[Act.put,List.setIfInBounds_toArray,List.set_cons_zero,List.set_cons_succ]
 refine wpAnyH_take (i:=4) (v:=?_) A5 kR kR kR A6 (Or.inl ⟨rF,?_⟩) A7 ?_
 rotate_left 1
 ·(intro wS hSw;(try dsimp only at hSw);go_simp;try(with_reducible rfl))
 try simp only[Act.put,List.setIfInBounds_toArray,List.set_cons_zero,List.set_cons_succ]
 refine wpAnyH_take (i:=5) (v:=?_) A5 kR kR kR A6 (Or.inl ⟨rF,?_⟩) A7 ?_
 rotate_left 1
 ·(intro wS hSw;(try dsimp only at hSw);go_simp;try(with_reducible rfl))
 try simp only[Act.put,List.setIfInBounds_toArray,List.set_cons_zero,List.set_cons_succ]
 refine wpAnyH_take (i:=6) (v:=?_) A5 kR kR kR A6 (Or.inl ⟨rF,?_⟩) A7 ?_
 rotate_left 1
 ·(intro wS hSw;(try dsimp only at hSw);go_simp;try(with_reducible rfl))
 try simp only[Act.put,List.setIfInBounds_toArray,List.set_cons_zero,List.set_cons_succ]
 refine wpAnyH_take (i:=7) (v:=?_) A5 kR kR kR A6 (Or.inl ⟨rF,?_⟩) A7 ?_
 rotate_left 1
 ·(intro wS hSw;(try dsimp only at hSw);go_simp;try(with_reducible rfl))
 try simp only[Act.put,List.setIfInBounds_toArray,List.set_cons_zero,List.set_cons_succ]
 refine wpAnyH_take (i:=8) (v:=?_) A5 kR kR kR A6 (Or.inl ⟨rF,?_⟩) A7 ?_
 rotate_left 1
 ·(intro wS hSw;(try dsimp only at hSw);go_simp;try(with_reducible rfl))
 try simp only[Act.put,List.setIfInBounds_toArray,List.set_cons_zero,List.set_cons_succ]
 refine wpAnyH_take (i:=9) (v:=?_) A5 kR kR kR A6 (Or.inl ⟨rF,?_⟩) A7 ?_
 rotate_left 1
 ·(intro wS hSw;(try dsimp only at hSw);go_simp;try(with_reducible rfl))
 try simp only[Act.put,List.setIfInBounds_toArray,List.set_cons_zero,List.set_cons_succ]
 refine wpAnyH_take (i:=10) (v:=?_) A5 kR kR kR A6 (Or.inl ⟨rF,?_⟩) A7 ?_
 rotate_left 1
 ·(intro wS hSw;(try dsimp only at hSw);go_simp;try(with_reducible rfl))
 try simp only[Act.put,List.setIfInBounds_toArray,List.set_cons_zero,List.set_cons_succ]
 refine wpAnyH_take (i:=11) (v:=?_) A5 kR kR kR A6 (Or.inl ⟨rF,?_⟩) A7 ?_
 rotate_left 1
 ·(intro wS hSw;(try dsimp only at hSw);go_simp;try(with_reducible rfl))
 try simp only[Act.put,List.setIfInBounds_toArray,List.set_cons_zero,List.set_cons_succ]
 refine wpAnyH_take (i:=12) (v:=?_) A5 kR kR kR A6 (Or.inl ⟨rF,?_⟩) A7 ?_
 rotate_left 1
 ·(intro wS hSw;(try dsimp only at hSw);go_simp;try(with_reducible rfl))
 try simp only[Act.put,List.setIfInBounds_toArray,List.set_cons_zero,List.set_cons_succ]
 refine wpAnyH_take (i:=13) (v:=?_) A5 kR kR kR A6 (Or.inl ⟨rF,?_⟩) A7 ?_
 rotate_left 1
 ·(intro wS hSw;(try dsimp only at hSw);go_simp;try(with_reducible rfl))
 try simp only[Act.put,List.setIfInBounds_toArray,List.set_cons_zero,List.set_cons_succ]
 refine wpAnyH_take (i:=14) (v:=?_) A5 kR kR kR A6 (Or.inl ⟨rF,?_⟩) A7 ?_
 rotate_left 1
 ·(intro wS hSw;(try dsimp only at hSw);go_simp;try(with_reducible rfl))
 try simp only[Act.put,List.setIfInBounds_toArray,List.set_cons_zero,List.set_cons_succ]
 refine wpAnyH_take (i:=15) (v:=?_) A5 kR kR kR A6 (Or.inl ⟨rF,?_⟩) A7 ?_
 rotate_left 1
 ·(intro wS hSw;(try dsimp only at hSw);go_simp;try(with_reducible rfl))
 try simp only[Act.put,List.setIfInBounds_toArray,List.set_cons_zero,List.set_cons_succ]
 refine wpAnyH_take (i:=16) (v:=?_) A5 kR kR kR A6 (Or.inl ⟨rF,?_⟩) A7 ?_
 rotate_left 1
 ·(intro wS hSw;(try dsimp only at hSw);go_simp;try(with_reducible rfl))
 try simp only[Act.put,List.setIfInBounds_toArray,List.set_cons_zero,List.set_cons_succ]
 clear hJ;refine AH 17 fun K hK=>?_;go_simp;refine AO hK fun hJ=>?_;clear hK K;refine wpAnyH_done kR ?_ _;go_wp2;refine bodyPost_ret (by simp[results,results62,go_sem, *];try rfl) rfl ?_;exact⟨rfl,gG⟩
theorem Hr(D A B E:Int)(w:World):
 (Instr.index 109 (.agg #[.int .i64 D,.int .i64 A,.int .i64 B,.int .i64 E]) (.int .i64 0)).run prog w=.ok (.int .i64 D) w/\
 (Instr.index 109 (.agg #[.int .i64 D,.int .i64 A,.int .i64 B,.int .i64 E]) (.int .i64 1)).run prog w=.ok (.int .i64 A) w/\
 (Instr.index 109 (.agg #[.int .i64 D,.int .i64 A,.int .i64 B,.int .i64 E]) (.int .i64 2)).run prog w=.ok (.int .i64 B) w/\
 (Instr.index 109 (.agg #[.int .i64 D,.int .i64 A,.int .i64 B,.int .i64 E]) (.int .i64 3)).run prog w=.ok (.int .i64 E) w:=by
 refine⟨?_,?_,?_,?_⟩<;>simp[Instr.index,run_underlying underlying109,asIntOf,part,go_sem]
structure FW(w:World)(G:Nat)(L0 L1 L2 L3 L4 K P:Int)(v:World):Prop where
 bel:Below w.heap.size w v
 r0:v.cell? ⟨w.heap.size,0,none⟩=some (.int .i64 L0)
 r1:v.cell? ⟨w.heap.size,1,none⟩=some (.int .i64 L1)
 r2:v.cell? ⟨w.heap.size,2,none⟩=some (.int .i64 L2)
 r3:v.cell? ⟨w.heap.size,3,none⟩=some (.int .i64 L3)
 r4:v.cell? ⟨w.heap.size,4,none⟩=some (.int .i64 L4)
 m0:v.cell? ⟨G,0,none⟩=some (.int .i64 K)
 m1:v.cell? ⟨G,1,none⟩=some (.int .i64 P)
theorem FW.next{w:World}{G:Nat}{L0 L1 L2 L3 L4 K P:Int}{v v':World}(h:FW w G L0 L1 L2 L3 L4 K P v)(k:Below v.heap.size v v'):FW w G L0 L1 L2 L3 L4 K P v':=
 ⟨Go.Proofs.Ytheanilpbnencaa.bel h.bel k,kc k h.r0,kc k h.r1,kc k h.r2,kc k h.r3,kc k h.r4,kc k h.m0,kc k h.m1⟩
theorem Hn(C:Nat)(v0 v1 v2 v3:Value)(c:Cd)(hk:AJ c)(b o:Nat)(i:Ay)(r:Rw)(w:World)(hc:AM w C v0 v1 v2 v3 c)(hi:Al w b o (C9 i))(h0:0<=i.bits)(h1:i.bits<4294967296)
 (hp:Ab c.regs r.d i.d (Ao c.regs i r)=true->Ab c.regs r.a i.a (Ao c.regs i r)=true->r.n=9->Ae (Ao c.regs i r).par c.sign.length=true):
 Calls prog 43 #[.pointer (some ⟨C,0,none⟩),.pointer (some ⟨b,o,none⟩),Bn r] w fun e w'=>e=.returned (.bool (AN c i r))/\Below w.heap.size w w':=by
 have KM:=fun w h k=>CJ C v0 v1 v2 v3 c hk b o i r w h k;have KR:=fun w k=>C6 b o i w k;have K0:=fun w h=>AZ C v0 v1 v2 v3 c hk r.d i.d (Ao c.regs i r) w h;have K1:=fun w h=>AZ C v0 v1 v2 v3 c hk r.a i.a (Ao c.regs i r) w h;have K2:=fun w h=>AZ C v0 v1 v2 v3 c hk r.b i.b (Ao c.regs i r) w h;have K3:=fun w h=>AZ C v0 v1 v2 v3 c hk r.c i.c (Ao c.regs i r) w h;have K4:=fun hq w h k=>Eg C v0 v1 v2 v3 c hk b o i r.n (Ao c.regs i r) w h k h0 h1 hq;have HC0:Hid (AM w C v0 v1 v2 v3 c):=hc;have HI0:Hid (Al w b o (C9 i)):=hi;have hfc:AN c i r=(Ab c.regs r.d i.d (Ao c.regs i r)&&(Ab c.regs r.a i.a (Ao c.regs i r)&&(Ab c.regs r.b i.b (Ao c.regs i r)&&(Ab c.regs r.c i.c (Ao c.regs i r)&&B8 c i r.n (Ao c.regs i r))))):=rfl;rw[hfc];clear hfc hc hi hk h0 h1;obtain⟨M,hM⟩:=gA (Ao c.regs i r)
 simp only[hM]at KM K0 K1 K2 K3 K4 hp |-;obtain⟨X0,hX0⟩:∃X,Ab c.regs r.d i.d M=X:=⟨_,rfl⟩
 obtain⟨X1,hX1⟩:∃X,Ab c.regs r.a i.a M=X:=⟨_,rfl⟩
 obtain⟨X2,hX2⟩:∃X,Ab c.regs r.b i.b M=X:=⟨_,rfl⟩
 obtain⟨X3,hX3⟩:∃X,Ab c.regs r.c i.c M=X:=⟨_,rfl⟩
 obtain⟨Y,hY⟩:∃X,B8 c i r.n M=X:=⟨_,rfl⟩
 simp only[hX0]at K0 hp |-;simp only[hX1]at K1 hp |-;simp only[hX2]at K2 |-;simp only[hX3]at K3 |-;simp only[hY]at K4 |-;obtain⟨L0,L1,L2,L3,L4⟩:=r;obtain⟨K,P⟩:=M;obtain⟨io,D,A,B,E,n,bt⟩:=i;unfold Bn at KM |-;unfold BI at KM K0 K1 K2 K3 K4;simp only at KM KR K0 K1 K2 K3 K4 hp |-;have HKM:Hid (∀w,AM w C v0 v1 v2 v3 c->Al w b o (C9 ⟨io,D,A,B,E,n,bt⟩)->Calls prog 61 #[.pointer (some ⟨C,0,none⟩),.pointer (some ⟨b,o,none⟩),.agg #[.int .i64 L0,.int .i64 L1,.int .i64 L2,.int .i64 L3,.int .i64 L4]] w fun e w'=>e=.returned (.agg #[.int .i64 K,.int .i64 P])/\Below w.heap.size w w'):=KM;have HKR:Hid (∀w,Al w b o (C9 ⟨io,D,A,B,E,n,bt⟩)->Calls prog 62 #[.pointer (some ⟨b,o,none⟩)] w fun e w'=>e=.returned (.agg #[.int .i64 D,.int .i64 A,.int .i64 B,.int .i64 E])/\Below w.heap.size w w'):=KR;have HK0:Hid (∀w,AM w C v0 v1 v2 v3 c->Calls prog 63 #[.pointer (some ⟨C,0,none⟩),.int .i64 L0,.int .i64 D,.agg #[.int .i64 K,.int .i64 P]] w fun e w'=>e=.returned (.bool X0)/\Below w.heap.size w w'):=K0;have HK1:Hid (∀w,AM w C v0 v1 v2 v3 c->Calls prog 63 #[.pointer (some ⟨C,0,none⟩),.int .i64 L1,.int .i64 A,.agg #[.int .i64 K,.int .i64 P]] w fun e w'=>e=.returned (.bool X1)/\Below w.heap.size w w'):=K1;have HK2:Hid (∀w,AM w C v0 v1 v2 v3 c->Calls prog 63 #[.pointer (some ⟨C,0,none⟩),.int .i64 L2,.int .i64 B,.agg #[.int .i64 K,.int .i64 P]] w fun e w'=>e=.returned (.bool X2)/\Below w.heap.size w w'):=K2;have HK3:Hid (∀w,AM w C v0 v1 v2 v3 c->Calls prog 63 #[.pointer (some ⟨C,0,none⟩),.int .i64 L3,.int .i64 E,.agg #[.int .i64 K,.int .i64 P]] w fun e w'=>e=.returned (.bool X3)/\Below w.heap.size w w'):=K3;have HK4:Hid ((L4=9->Ae P c.sign.length=true)->∀w,AM w C v0 v1 v2 v3 c->Al w b o (C9 ⟨io,D,A,B,E,n,bt⟩)->Calls prog 64 #[.pointer (some ⟨C,0,none⟩),.pointer (some ⟨b,o,none⟩),.int .i64 L4,.agg #[.int .i64 K,.int .i64 P]] w fun e w'=>e=.returned (.bool Y)/\Below w.heap.size w w'):=K4;have HP:Hid (X0=true->X1=true->L4=9->Ae P c.sign.length=true):=hp;clear KM KR K0 K1 K2 K3 K4 hp hM hX0 hX1 hX2 hX3 hY;go_enter func43,ntmps43;go_wp2_with(first
  |(go_at_call 61;refine(HKM.out _ (HC0.below (A0 _ _)) (HI0.below (A0 _ _))).mono ?_;rintro e w1 ⟨rfl,hb1⟩;have HF1:Hid (FW w w1.heap.size L0 L1 L2 L3 L4 K P (w1.alloc (.cells #[.int .i64 K,.int .i64 P] 47))):=(by exact⟨bel (bel (A0 _ _) hb1) (A0 _ _),kc (A0 _ _) (kc hb1 sG),kc (A0 _ _) (kc hb1 sG),kc (A0 _ _) (kc hb1 sG),kc (A0 _ _) (kc hb1 sG),kc (A0 _ _) (kc hb1 sG),sG,sG⟩))
  |(go_at_call 62;refine(HKR.out _ (HI0.below HF1.bel)).mono ?_;rintro e w2 ⟨rfl,hb2⟩;have HF2:Hid (FW w w1.heap.size L0 L1 L2 L3 L4 K P w2):=HF1.next hb2))
 obtain⟨G,hG⟩:=gA (w1.heap.size)
 rw[hG]at HF2 |-
 go_loopw [16] (fun iv wr=>FW w G L0 L1 L2 L3 L4 K P wr/\∃j:Nat,j<=4/\iv=.int .i64 j/\Hid ((0<j->X0=true)/\(1<j->X1=true)/\(2<j->X2=true)/\(3<j->X3=true))) (fun iv _=>4-(intOf iv).toNat)
 case atStart=>exact⟨HF2.out,0,oM,rfl,⟨fun h=>absurd h oM,fun h=>absurd h oM,fun h=>absurd h oM,fun h=>absurd h oM⟩⟩
 case round=>
  clear HF1 HF2 HKM HKR hb1 hb2 hG;obtain⟨hF,j,hj,rfl,hp⟩:=hrel;have m0:=hF.m0;have m1:=hF.m1;have HF:Hid (FW w G L0 L1 L2 L3 L4 K P wr):=hF;have HC:Hid (∀v,Below wr.heap.size wr v->FW w G L0 L1 L2 L3 L4 K P v):=fun v hv=>HF.next hv;obtain rfl|rfl|rfl|rfl|rfl:j=0\/j=1\/j=2\/j=3\/j=4:=oM
  .have r0:=hF.r0;have ix:∀w,(Instr.index 109 (.agg #[.int .i64 D,.int .i64 A,.int .i64 B,.int .i64 E]) (.int .i64 0)).run prog w=.ok (.int .i64 D) w:=fun w=>(Hr D A B E w).1;clear hF;have HC1:Hid (∀v,Below wr.heap.size wr v->v.cell? ⟨w.heap.size,0,none⟩=some (.int .i64 L0)/\v.cell? ⟨G,0,none⟩=some (.int .i64 K)/\v.cell? ⟨G,1,none⟩=some (.int .i64 P)):=fun v hv=>⟨(HC.out v hv).r0,(HC.out v hv).m0,(HC.out v hv).m1⟩
   cases X0
   .go_wp2;refine rG (fun v=>v.cell? ⟨w.heap.size,0,none⟩=some (.int .i64 L0)/\v.cell? ⟨G,0,none⟩=some (.int .i64 K)/\v.cell? ⟨G,1,none⟩=some (.int .i64 P)) fun hJ=>?_;refine wpAnyH_take (i:=0) (v:=?_) A5 kR kR kR A6 (Or.inl ⟨rF,?_⟩) A7 ?_
    rotate_left 1
    ·(intro wS hSw;(try dsimp only at hSw);go_simp;try(with_reducible rfl))
    try simp only[Act.put,List.setIfInBounds_toArray,List.set_cons_zero,List.set_cons_succ]
    refine wpAnyH_take (i:=1) (v:=?_) A5 kR kR kR A6 (Or.inl ⟨rF,?_⟩) A7 ?_
    rotate_left 1
    ·(intro wS hSw;(try dsimp only at hSw);go_simp;try(with_reducible rfl))
    try simp only[Act.put,List.setIfInBounds_toArray,List.set_cons_zero,List.set_cons_succ]
    refine wpAnyH_take (i:=2) (v:=?_) A5 kR kR kR A6 (Or.inl ⟨rF,?_⟩) A7 ?_
    rotate_left 1
    ·(intro wS hSw;(try dsimp only at hSw);go_simp;try(with_reducible rfl))
    try simp only[Act.put,List.setIfInBounds_toArray,List.set_cons_zero,List.set_cons_succ]
    refine wpAnyH_take (i:=3) (v:=?_) A5 kR kR kR A6 (Or.inl ⟨rF,?_⟩) A7 ?_
    rotate_left 1
    ·(intro wS hSw;(try dsimp only at hSw);go_simp;try(with_reducible rfl))
    try simp only[Act.put,List.setIfInBounds_toArray,List.set_cons_zero,List.set_cons_succ]
    refine wpAnyH_take (i:=4) (v:=?_) A5 kR kR kR A6 (Or.inl ⟨rF,?_⟩) A7 ?_
    rotate_left 1
    ·(intro wS hSw;(try dsimp only at hSw);go_simp;try(with_reducible rfl))
    try simp only[Act.put,List.setIfInBounds_toArray,List.set_cons_zero,List.set_cons_succ]
    refine wpAnyH_take (i:=5) (v:=?_) A5 kR kR kR A6 (Or.inl ⟨rF,?_⟩) A7 ?_
    rotate_left 1
    ·(intro wS hSw;(try dsimp only at hSw);go_simp;try(with_reducible rfl))
    try simp only[Act.put,List.setIfInBounds_toArray,List.set_cons_zero,List.set_cons_succ]
    clear hJ;refine AH 6 fun K hK=>?_;go_simp;(go_at_call 63;refine(HK0.out _ ((HC0.below HF.bel).below (Aa _))).mono ?_;rintro e w3 ⟨rfl,hb3⟩;have HB3:=bel (Aa _) hb3;obtain⟨y0,y1,y2⟩:=HC1.out w3 HB3);exact KY
   .go_wp2;refine rG (fun v=>v.cell? ⟨w.heap.size,0,none⟩=some (.int .i64 L0)/\v.cell? ⟨G,0,none⟩=some (.int .i64 K)/\v.cell? ⟨G,1,none⟩=some (.int .i64 P)) fun hJ=>?_;refine wpAnyH_take (i:=0) (v:=?_) A5 kR kR kR A6 (Or.inl ⟨rF,?_⟩) A7 ?_
    rotate_left 1
    ·(intro wS hSw;(try dsimp only at hSw);go_simp;try(with_reducible rfl))
    try simp only[Act.put,List.setIfInBounds_toArray,List.set_cons_zero,List.set_cons_succ]
    refine wpAnyH_take (i:=1) (v:=?_) A5 kR kR kR A6 (Or.inl ⟨rF,?_⟩) A7 ?_
    rotate_left 1
    ·(intro wS hSw;(try dsimp only at hSw);go_simp;try(with_reducible rfl))
    try simp only[Act.put,List.setIfInBounds_toArray,List.set_cons_zero,List.set_cons_succ]
    refine wpAnyH_take (i:=2) (v:=?_) A5 kR kR kR A6 (Or.inl ⟨rF,?_⟩) A7 ?_
    rotate_left 1
    ·(intro wS hSw;(try dsimp only at hSw);go_simp;try(with_reducible rfl))
    try simp only[Act.put,List.setIfInBounds_toArray,List.set_cons_zero,List.set_cons_succ]
    refine wpAnyH_take (i:=3) (v:=?_) A5 kR kR kR A6 (Or.inl ⟨rF,?_⟩) A7 ?_
    rotate_left 1
    ·(intro wS hSw;(try dsimp only at hSw);go_simp;try(with_reducible rfl))
    try simp only[Act.put,List.setIfInBounds_toArray,List.set_cons_zero,List.set_cons_succ]
    refine wpAnyH_take (i:=4) (v:=?_) A5 kR kR kR A6 (Or.inl ⟨rF,?_⟩) A7 ?_
    rotate_left 1
    ·(intro wS hSw;(try dsimp only at hSw);go_simp;try(with_reducible rfl))
    try simp only[Act.put,List.setIfInBounds_toArray,List.set_cons_zero,List.set_cons_succ]
    refine wpAnyH_take (i:=5) (v:=?_) A5 kR kR kR A6 (Or.inl ⟨rF,?_⟩) A7 ?_
    rotate_left 1
    ·(intro wS hSw;(try dsimp only at hSw);go_simp;try(with_reducible rfl))
    try simp only[Act.put,List.setIfInBounds_toArray,List.set_cons_zero,List.set_cons_succ]
    clear hJ;refine AH 6 fun K hK=>?_;go_simp;(go_at_call 63;refine(HK0.out _ ((HC0.below HF.bel).below (Aa _))).mono ?_;rintro e w3 ⟨rfl,hb3⟩;have HB3:=bel (Aa _) hb3;obtain⟨y0,y1,y2⟩:=HC1.out w3 HB3);try(go_wp2_with fail)
    refine AO hK fun hJ=>?_;clear hK K;refine wpAnyH_take (i:=7) (v:=?_) A5 kR kR kR A6 (Or.inl ⟨rF,?_⟩) A7 ?_
    rotate_left 1
    ·(intro wS hSw;(try dsimp only at hSw);go_simp;try(with_reducible rfl))
    try simp only[Act.put,List.setIfInBounds_toArray,List.set_cons_zero,List.set_cons_succ]
    refine wpAnyH_done kR ?_ _;go_wp2;go_roundw
    case rel=>exact⟨HC.out w3 HB3,1,oM,by first|rfl|go_num,⟨fun _=>fT,fun h=>absurd h oM,fun h=>absurd h oM,fun h=>absurd h oM⟩⟩
    case measure=>simp[intOf]
  .have r0:=hF.r1;have ix:∀w,(Instr.index 109 (.agg #[.int .i64 D,.int .i64 A,.int .i64 B,.int .i64 E]) (.int .i64 1)).run prog w=.ok (.int .i64 A) w:=fun w=>(Hr D A B E w).2.1;clear hF;have HC1:Hid (∀v,Below wr.heap.size wr v->v.cell? ⟨w.heap.size,1,none⟩=some (.int .i64 L1)/\v.cell? ⟨G,0,none⟩=some (.int .i64 K)/\v.cell? ⟨G,1,none⟩=some (.int .i64 P)):=fun v hv=>⟨(HC.out v hv).r1,(HC.out v hv).m0,(HC.out v hv).m1⟩
   cases X1
   .go_wp2;refine rG (fun v=>v.cell? ⟨w.heap.size,1,none⟩=some (.int .i64 L1)/\v.cell? ⟨G,0,none⟩=some (.int .i64 K)/\v.cell? ⟨G,1,none⟩=some (.int .i64 P)) fun hJ=>?_;refine wpAnyH_take (i:=0) (v:=?_) A5 kR kR kR A6 (Or.inl ⟨rF,?_⟩) A7 ?_
    rotate_left 1
    ·(intro wS hSw;(try dsimp only at hSw);go_simp;try(with_reducible rfl))
    try simp only[Act.put,List.setIfInBounds_toArray,List.set_cons_zero,List.set_cons_succ]
    refine wpAnyH_take (i:=1) (v:=?_) A5 kR kR kR A6 (Or.inl ⟨rF,?_⟩) A7 ?_
    rotate_left 1
    ·(intro wS hSw;(try dsimp only at hSw);go_simp;try(with_reducible rfl))
    try simp only[Act.put,List.setIfInBounds_toArray,List.set_cons_zero,List.set_cons_succ]
    refine wpAnyH_take (i:=2) (v:=?_) A5 kR kR kR A6 (Or.inl ⟨rF,?_⟩) A7 ?_
    rotate_left 1
    ·(intro wS hSw;(try dsimp only at hSw);go_simp;try(with_reducible rfl))
    try simp only[Act.put,List.setIfInBounds_toArray,List.set_cons_zero,List.set_cons_succ]
    refine wpAnyH_take (i:=3) (v:=?_) A5 kR kR kR A6 (Or.inl ⟨rF,?_⟩) A7 ?_
    rotate_left 1
    ·(intro wS hSw;(try dsimp only at hSw);go_simp;try(with_reducible rfl))
    try simp only[Act.put,List.setIfInBounds_toArray,List.set_cons_zero,List.set_cons_succ]
    refine wpAnyH_take (i:=4) (v:=?_) A5 kR kR kR A6 (Or.inl ⟨rF,?_⟩) A7 ?_
    rotate_left 1
    ·(intro wS hSw;(try dsimp only at hSw);go_simp;try(with_reducible rfl))
    try simp only[Act.put,List.setIfInBounds_toArray,List.set_cons_zero,List.set_cons_succ]
    refine wpAnyH_take (i:=5) (v:=?_) A5 kR kR kR A6 (Or.inl ⟨rF,?_⟩) A7 ?_
    rotate_left 1
    ·(intro wS hSw;(try dsimp only at hSw);go_simp;try(with_reducible rfl))
    try simp only[Act.put,List.setIfInBounds_toArray,List.set_cons_zero,List.set_cons_succ]
    clear hJ;refine AH 6 fun K hK=>?_;go_simp;(go_at_call 63;refine(HK1.out _ ((HC0.below HF.bel).below (Aa _))).mono ?_;rintro e w3 ⟨rfl,hb3⟩;have HB3:=bel (Aa _) hb3;obtain⟨y0,y1,y2⟩:=HC1.out w3 HB3);exact KY
   .go_wp2;refine rG (fun v=>v.cell? ⟨w.heap.size,1,none⟩=some (.int .i64 L1)/\v.cell? ⟨G,0,none⟩=some (.int .i64 K)/\v.cell? ⟨G,1,none⟩=some (.int .i64 P)) fun hJ=>?_;refine wpAnyH_take (i:=0) (v:=?_) A5 kR kR kR A6 (Or.inl ⟨rF,?_⟩) A7 ?_
    rotate_left 1
    ·(intro wS hSw;(try dsimp only at hSw);go_simp;try(with_reducible rfl))
    try simp only[Act.put,List.setIfInBounds_toArray,List.set_cons_zero,List.set_cons_succ]
    refine wpAnyH_take (i:=1) (v:=?_) A5 kR kR kR A6 (Or.inl ⟨rF,?_⟩) A7 ?_
    rotate_left 1
    ·(intro wS hSw;(try dsimp only at hSw);go_simp;try(with_reducible rfl))
    try simp only[Act.put,List.setIfInBounds_toArray,List.set_cons_zero,List.set_cons_succ]
    refine wpAnyH_take (i:=2) (v:=?_) A5 kR kR kR A6 (Or.inl ⟨rF,?_⟩) A7 ?_
    rotate_left 1
    ·(intro wS hSw;(try dsimp only at hSw);go_simp;try(with_reducible rfl))
    try simp only[Act.put,List.setIfInBounds_toArray,List.set_cons_zero,List.set_cons_succ]
    refine wpAnyH_take (i:=3) (v:=?_) A5 kR kR kR A6 (Or.inl ⟨rF,?_⟩) A7 ?_
    rotate_left 1
    ·(intro wS hSw;(try dsimp only at hSw);go_simp;try(with_reducible rfl))
    try simp only[Act.put,List.setIfInBounds_toArray,List.set_cons_zero,List.set_cons_succ]
    refine wpAnyH_take (i:=4) (v:=?_) A5 kR kR kR A6 (Or.inl ⟨rF,?_⟩) A7 ?_
    rotate_left 1
    ·(intro wS hSw;(try dsimp only at hSw);go_simp;try(with_reducible rfl))
    try simp only[Act.put,List.setIfInBounds_toArray,List.set_cons_zero,List.set_cons_succ]
    refine wpAnyH_take (i:=5) (v:=?_) A5 kR kR kR A6 (Or.inl ⟨rF,?_⟩) A7 ?_
    rotate_left 1
    ·(intro wS hSw;(try dsimp only at hSw);go_simp;try(with_reducible rfl))
    try simp only[Act.put,List.setIfInBounds_toArray,List.set_cons_zero,List.set_cons_succ]
    clear hJ;refine AH 6 fun K hK=>?_;go_simp;(go_at_call 63;refine(HK1.out _ ((HC0.below HF.bel).below (Aa _))).mono ?_;rintro e w3 ⟨rfl,hb3⟩;have HB3:=bel (Aa _) hb3;obtain⟨y0,y1,y2⟩:=HC1.out w3 HB3);try(go_wp2_with fail)
    refine AO hK fun hJ=>?_;clear hK K;refine wpAnyH_take (i:=7) (v:=?_) A5 kR kR kR A6 (Or.inl ⟨rF,?_⟩) A7 ?_
    rotate_left 1
    ·(intro wS hSw;(try dsimp only at hSw);go_simp;try(with_reducible rfl))
    try simp only[Act.put,List.setIfInBounds_toArray,List.set_cons_zero,List.set_cons_succ]
    refine wpAnyH_done kR ?_ _;go_wp2;go_roundw
    case rel=>exact⟨HC.out w3 HB3,2,oM,by first|rfl|go_num,⟨fun _=>hp.1 oM,fun _=>fT,fun h=>absurd h oM,fun h=>absurd h oM⟩⟩
    case measure=>simp[intOf]
  .have r0:=hF.r2;have ix:∀w,(Instr.index 109 (.agg #[.int .i64 D,.int .i64 A,.int .i64 B,.int .i64 E]) (.int .i64 2)).run prog w=.ok (.int .i64 B) w:=fun w=>(Hr D A B E w).2.2.1;clear hF;have HC1:Hid (∀v,Below wr.heap.size wr v->v.cell? ⟨w.heap.size,2,none⟩=some (.int .i64 L2)/\v.cell? ⟨G,0,none⟩=some (.int .i64 K)/\v.cell? ⟨G,1,none⟩=some (.int .i64 P)):=fun v hv=>⟨(HC.out v hv).r2,(HC.out v hv).m0,(HC.out v hv).m1⟩
   cases X2
   .go_wp2;refine rG (fun v=>v.cell? ⟨w.heap.size,2,none⟩=some (.int .i64 L2)/\v.cell? ⟨G,0,none⟩=some (.int .i64 K)/\v.cell? ⟨G,1,none⟩=some (.int .i64 P)) fun hJ=>?_;refine wpAnyH_take (i:=0) (v:=?_) A5 kR kR kR A6 (Or.inl ⟨rF,?_⟩) A7 ?_
    rotate_left 1
    ·(intro wS hSw;(try dsimp only at hSw);go_simp;try(with_reducible rfl))
    try simp only[Act.put,List.setIfInBounds_toArray,List.set_cons_zero,List.set_cons_succ]
    refine wpAnyH_take (i:=1) (v:=?_) A5 kR kR kR A6 (Or.inl ⟨rF,?_⟩) A7 ?_
    rotate_left 1
    ·(intro wS hSw;(try dsimp only at hSw);go_simp;try(with_reducible rfl))
    try simp only[Act.put,List.setIfInBounds_toArray,List.set_cons_zero,List.set_cons_succ]
    refine wpAnyH_take (i:=2) (v:=?_) A5 kR kR kR A6 (Or.inl ⟨rF,?_⟩) A7 ?_
    rotate_left 1
    ·(intro wS hSw;(try dsimp only at hSw);go_simp;try(with_reducible rfl))
    try simp only[Act.put,List.setIfInBounds_toArray,List.set_cons_zero,List.set_cons_succ]
    refine wpAnyH_take (i:=3) (v:=?_) A5 kR kR kR A6 (Or.inl ⟨rF,?_⟩) A7 ?_
    rotate_left 1
    ·(intro wS hSw;(try dsimp only at hSw);go_simp;try(with_reducible rfl))
    try simp only[Act.put,List.setIfInBounds_toArray,List.set_cons_zero,List.set_cons_succ]
    refine wpAnyH_take (i:=4) (v:=?_) A5 kR kR kR A6 (Or.inl ⟨rF,?_⟩) A7 ?_
    rotate_left 1
    ·(intro wS hSw;(try dsimp only at hSw);go_simp;try(with_reducible rfl))
    try simp only[Act.put,List.setIfInBounds_toArray,List.set_cons_zero,List.set_cons_succ]
    refine wpAnyH_take (i:=5) (v:=?_) A5 kR kR kR A6 (Or.inl ⟨rF,?_⟩) A7 ?_
    rotate_left 1
    ·(intro wS hSw;(try dsimp only at hSw);go_simp;try(with_reducible rfl))
    try simp only[Act.put,List.setIfInBounds_toArray,List.set_cons_zero,List.set_cons_succ]
    clear hJ;refine AH 6 fun K hK=>?_;go_simp;(go_at_call 63;refine(HK2.out _ ((HC0.below HF.bel).below (Aa _))).mono ?_;rintro e w3 ⟨rfl,hb3⟩;have HB3:=bel (Aa _) hb3;obtain⟨y0,y1,y2⟩:=HC1.out w3 HB3);exact KY
   .go_wp2;refine rG (fun v=>v.cell? ⟨w.heap.size,2,none⟩=some (.int .i64 L2)/\v.cell? ⟨G,0,none⟩=some (.int .i64 K)/\v.cell? ⟨G,1,none⟩=some (.int .i64 P)) fun hJ=>?_;refine wpAnyH_take (i:=0) (v:=?_) A5 kR kR kR A6 (Or.inl ⟨rF,?_⟩) A7 ?_
    rotate_left 1
    ·(intro wS hSw;(try dsimp only at hSw);go_simp;try(with_reducible rfl))
    try simp only[Act.put,List.setIfInBounds_toArray,List.set_cons_zero,List.set_cons_succ]
    refine wpAnyH_take (i:=1) (v:=?_) A5 kR kR kR A6 (Or.inl ⟨rF,?_⟩) A7 ?_
    rotate_left 1
    ·(intro wS hSw;(try dsimp only at hSw);go_simp;try(with_reducible rfl))
    try simp only[Act.put,List.setIfInBounds_toArray,List.set_cons_zero,List.set_cons_succ]
    refine wpAnyH_take (i:=2) (v:=?_) A5 kR kR kR A6 (Or.inl ⟨rF,?_⟩) A7 ?_
    rotate_left 1
    ·(intro wS hSw;(try dsimp only at hSw);go_simp;try(with_reducible rfl))
    try simp only[Act.put,List.setIfInBounds_toArray,List.set_cons_zero,List.set_cons_succ]
    refine wpAnyH_take (i:=3) (v:=?_) A5 kR kR kR A6 (Or.inl ⟨rF,?_⟩) A7 ?_
    rotate_left 1
    ·(intro wS hSw;(try dsimp only at hSw);go_simp;try(with_reducible rfl))
    try simp only[Act.put,List.setIfInBounds_toArray,List.set_cons_zero,List.set_cons_succ]
    refine wpAnyH_take (i:=4) (v:=?_) A5 kR kR kR A6 (Or.inl ⟨rF,?_⟩) A7 ?_
    rotate_left 1
    ·(intro wS hSw;(try dsimp only at hSw);go_simp;try(with_reducible rfl))
    try simp only[Act.put,List.setIfInBounds_toArray,List.set_cons_zero,List.set_cons_succ]
    refine wpAnyH_take (i:=5) (v:=?_) A5 kR kR kR A6 (Or.inl ⟨rF,?_⟩) A7 ?_
    rotate_left 1
    ·(intro wS hSw;(try dsimp only at hSw);go_simp;try(with_reducible rfl))
    try simp only[Act.put,List.setIfInBounds_toArray,List.set_cons_zero,List.set_cons_succ]
    clear hJ;refine AH 6 fun K hK=>?_;go_simp;(go_at_call 63;refine(HK2.out _ ((HC0.below HF.bel).below (Aa _))).mono ?_;rintro e w3 ⟨rfl,hb3⟩;have HB3:=bel (Aa _) hb3;obtain⟨y0,y1,y2⟩:=HC1.out w3 HB3);try(go_wp2_with fail)
    refine AO hK fun hJ=>?_;clear hK K;refine wpAnyH_take (i:=7) (v:=?_) A5 kR kR kR A6 (Or.inl ⟨rF,?_⟩) A7 ?_
    rotate_left 1
    ·(intro wS hSw;(try dsimp only at hSw);go_simp;try(with_reducible rfl))
    try simp only[Act.put,List.setIfInBounds_toArray,List.set_cons_zero,List.set_cons_succ]
    refine wpAnyH_done kR ?_ _;go_wp2;go_roundw
    case rel=>exact⟨HC.out w3 HB3,3,oM,by first|rfl|go_num,⟨fun _=>hp.1 oM,fun _=>hp.2.1 oM,fun _=>fT,fun h=>absurd h oM⟩⟩
    case measure=>simp[intOf]
  .have r0:=hF.r3;have ix:∀w,(Instr.index 109 (.agg #[.int .i64 D,.int .i64 A,.int .i64 B,.int .i64 E]) (.int .i64 3)).run prog w=.ok (.int .i64 E) w:=fun w=>(Hr D A B E w).2.2.2;clear hF;have HC1:Hid (∀v,Below wr.heap.size wr v->v.cell? ⟨w.heap.size,3,none⟩=some (.int .i64 L3)/\v.cell? ⟨G,0,none⟩=some (.int .i64 K)/\v.cell? ⟨G,1,none⟩=some (.int .i64 P)):=fun v hv=>⟨(HC.out v hv).r3,(HC.out v hv).m0,(HC.out v hv).m1⟩
   cases X3
   .go_wp2;refine rG (fun v=>v.cell? ⟨w.heap.size,3,none⟩=some (.int .i64 L3)/\v.cell? ⟨G,0,none⟩=some (.int .i64 K)/\v.cell? ⟨G,1,none⟩=some (.int .i64 P)) fun hJ=>?_;refine wpAnyH_take (i:=0) (v:=?_) A5 kR kR kR A6 (Or.inl ⟨rF,?_⟩) A7 ?_
    rotate_left 1
    ·(intro wS hSw;(try dsimp only at hSw);go_simp;try(with_reducible rfl))
    try simp only[Act.put,List.setIfInBounds_toArray,List.set_cons_zero,List.set_cons_succ]
    refine wpAnyH_take (i:=1) (v:=?_) A5 kR kR kR A6 (Or.inl ⟨rF,?_⟩) A7 ?_
    rotate_left 1
    ·(intro wS hSw;(try dsimp only at hSw);go_simp;try(with_reducible rfl))
    try simp only[Act.put,List.setIfInBounds_toArray,List.set_cons_zero,List.set_cons_succ]
    refine wpAnyH_take (i:=2) (v:=?_) A5 kR kR kR A6 (Or.inl ⟨rF,?_⟩) A7 ?_
    rotate_left 1
    ·(intro wS hSw;(try dsimp only at hSw);go_simp;try(with_reducible rfl))
    try simp only[Act.put,List.setIfInBounds_toArray,List.set_cons_zero,List.set_cons_succ]
    refine wpAnyH_take (i:=3) (v:=?_) A5 kR kR kR A6 (Or.inl ⟨rF,?_⟩) A7 ?_
    rotate_left 1
    ·(intro wS hSw;(try dsimp only at hSw);go_simp;try(with_reducible rfl))
    try simp only[Act.put,List.setIfInBounds_toArray,List.set_cons_zero,List.set_cons_succ]
    refine wpAnyH_take (i:=4) (v:=?_) A5 kR kR kR A6 (Or.inl ⟨rF,?_⟩) A7 ?_
    rotate_left 1
    ·(intro wS hSw;(try dsimp only at hSw);go_simp;try(with_reducible rfl))
    try simp only[Act.put,List.setIfInBounds_toArray,List.set_cons_zero,List.set_cons_succ]
    refine wpAnyH_take (i:=5) (v:=?_) A5 kR kR kR A6 (Or.inl ⟨rF,?_⟩) A7 ?_
    rotate_left 1
    ·(intro wS hSw;(try dsimp only at hSw);go_simp;try(with_reducible rfl))
    try simp only[Act.put,List.setIfInBounds_toArray,List.set_cons_zero,List.set_cons_succ]
    clear hJ;refine AH 6 fun K hK=>?_;go_simp;(go_at_call 63;refine(HK3.out _ ((HC0.below HF.bel).below (Aa _))).mono ?_;rintro e w3 ⟨rfl,hb3⟩;have HB3:=bel (Aa _) hb3;obtain⟨y0,y1,y2⟩:=HC1.out w3 HB3);exact KY
   .go_wp2;refine rG (fun v=>v.cell? ⟨w.heap.size,3,none⟩=some (.int .i64 L3)/\v.cell? ⟨G,0,none⟩=some (.int .i64 K)/\v.cell? ⟨G,1,none⟩=some (.int .i64 P)) fun hJ=>?_;refine wpAnyH_take (i:=0) (v:=?_) A5 kR kR kR A6 (Or.inl ⟨rF,?_⟩) A7 ?_
    rotate_left 1
    ·(intro wS hSw;(try dsimp only at hSw);go_simp;try(with_reducible rfl))
    try simp only[Act.put,List.setIfInBounds_toArray,List.set_cons_zero,List.set_cons_succ]
    refine wpAnyH_take (i:=1) (v:=?_) A5 kR kR kR A6 (Or.inl ⟨rF,?_⟩) A7 ?_
    rotate_left 1
    ·(intro wS hSw;(try dsimp only at hSw);go_simp;try(with_reducible rfl))
    try simp only[Act.put,List.setIfInBounds_toArray,List.set_cons_zero,List.set_cons_succ]
    refine wpAnyH_take (i:=2) (v:=?_) A5 kR kR kR A6 (Or.inl ⟨rF,?_⟩) A7 ?_
    rotate_left 1
    ·(intro wS hSw;(try dsimp only at hSw);go_simp;try(with_reducible rfl))
    try simp only[Act.put,List.setIfInBounds_toArray,List.set_cons_zero,List.set_cons_succ]
    refine wpAnyH_take (i:=3) (v:=?_) A5 kR kR kR A6 (Or.inl ⟨rF,?_⟩) A7 ?_
    rotate_left 1
    ·(intro wS hSw;(try dsimp only at hSw);go_simp;try(with_reducible rfl))
    try simp only[Act.put,List.setIfInBounds_toArray,List.set_cons_zero,List.set_cons_succ]
    refine wpAnyH_take (i:=4) (v:=?_) A5 kR kR kR A6 (Or.inl ⟨rF,?_⟩) A7 ?_
    rotate_left 1
    ·(intro wS hSw;(try dsimp only at hSw);go_simp;try(with_reducible rfl))
    try simp only[Act.put,List.setIfInBounds_toArray,List.set_cons_zero,List.set_cons_succ]
    refine wpAnyH_take (i:=5) (v:=?_) A5 kR kR kR A6 (Or.inl ⟨rF,?_⟩) A7 ?_
    rotate_left 1
    ·(intro wS hSw;(try dsimp only at hSw);go_simp;try(with_reducible rfl))
    try simp only[Act.put,List.setIfInBounds_toArray,List.set_cons_zero,List.set_cons_succ]
    clear hJ;refine AH 6 fun K hK=>?_;go_simp;(go_at_call 63;refine(HK3.out _ ((HC0.below HF.bel).below (Aa _))).mono ?_;rintro e w3 ⟨rfl,hb3⟩;have HB3:=bel (Aa _) hb3;obtain⟨y0,y1,y2⟩:=HC1.out w3 HB3);try(go_wp2_with fail)
    refine AO hK fun hJ=>?_;clear hK K;refine wpAnyH_take (i:=7) (v:=?_) A5 kR kR kR A6 (Or.inl ⟨rF,?_⟩) A7 ?_
    rotate_left 1
    ·(intro wS hSw;(try dsimp only at hSw);go_simp;try(with_reducible rfl))
    try simp only[Act.put,List.setIfInBounds_toArray,List.set_cons_zero,List.set_cons_succ]
    refine wpAnyH_done kR ?_ _;go_wp2;go_roundw
    case rel=>exact⟨HC.out w3 HB3,4,oM,by first|rfl|go_num,⟨fun _=>hp.1 oM,fun _=>hp.2.1 oM,fun _=>hp.2.2.1 oM,fun _=>fT⟩⟩
    case measure=>simp[intOf]
  .have r4:=hF.r4;obtain⟨rfl,rfl,rfl,rfl⟩:X0=true/\X1=true/\X2=true/\X3=true:=⟨hp.1 oM,hp.2.1 oM,hp.2.2.1 oM,hp.2.2.2 oM⟩
   clear hF hp;go_wp2_with(go_at_call 64;refine(HK4.out (HP.out rfl rfl) _ (HC0.below HF.bel) (HI0.below HF.bel)).mono ?_;rintro e w3 ⟨rfl,hb3⟩);go_ret;exact⟨A9 sM,(HC.out w3 hb3).bel⟩
theorem DC:(prog.info? 3).map (fun i=>(i.zero,i.size,i.bytes))=some (some (.int .i64 0),1,8):=kR
def Be(l:List Int):List Value:=l.map fun x=>.int .i64 x
theorem Br(l:List Int)(x:Int):Be (l++[x])=Be l++[.int .i64 x]:=by simp[Be]
theorem Cj{w:World}{B:Nat}{t:TypeId}{k:Nat}{v:Value}{n:Nat}{xs:List Value}(h:w.ownsRow B t k v n xs)(hn:0<n):
 ∃g cap,v=.slice (some ⟨g,0,none⟩) n cap/\B<=g/\g<w.heap.size/\n<=cap/\cap<=maxLen/\∀ (j:Nat) (u:Value),xs[j]? =some u->w.cell? ⟨g,j,none⟩=some u:=by
 obtain⟨hl,h⟩:=h;rcases h with⟨_,h0⟩|⟨g,cap,cur,hv,hB,hg,hc1,hc2,hsz,htk⟩
 .omega
 .refine⟨g,cap,hv,hB,?_,hc1,hc2,fun j u hu=>?_⟩
  .rcases Nat.lt_or_ge g w.heap.size with c|c
   .exact c
   .rw[Array.getElem?_eq_none c]at hg;cases hg
  .have hj:j<xs.length:=(List.getElem?_eq_some_iff.1 hu).1;rw[<-htk,List.getElem?_take_of_lt oM]at hu;simpa[World.cell?,hg]using hu
theorem As{w:World}{B:Nat}{t:TypeId}{k:Nat}{v:Value}{n:Nat}{xs:List Value}(h:w.ownsRow B t k v n xs):∃p cap,v=.slice p n cap:=by
 obtain⟨hl,h⟩:=h;rcases h with⟨rfl,rfl⟩|⟨g,cap,cur,hv,-⟩
 .exact⟨none,0,rfl⟩
 .exact⟨_,_,hv⟩
theorem Ax{w w':World}{B:Nat}{t:TypeId}{k:Nat}{v:Value}{n:Nat}{xs:List Value}(h:w.ownsRow B t k v n xs)(hb:∀g,v.ownBlock=some g->w'.heap[g]? =w.heap[g]?):w'.ownsRow B t k v n xs:=by
 refine⟨h.1,?_⟩;rcases h.2 with h5|⟨g,cap,cur,hv,hB,hg,hr⟩
 .exact .inl h5
 .exact .inr ⟨g,cap,cur,hv,hB,(hb g (by rw[hv];rfl)).trans hg,hr⟩
theorem AA{w w':World}{B:Nat}{t:TypeId}{k:Nat}{v:Value}{n:Nat}{xs:List Value}(h:w.ownsRow B t k v n xs)(q:Below w.heap.size w w'):w'.ownsRow B t k v n xs:=Ax h fun g hg=>q.block g (h.lt g hg).2
theorem By{w:World}{B B':Nat}{t:TypeId}{k:Nat}{v:Value}{n:Nat}{xs:List Value}(h:w.ownsRow B t k v n xs)(hB:B'<=B):w.ownsRow B' t k v n xs:=
 ⟨h.1,h.2.imp id fun⟨g,cap,cur,h1,h2,h3⟩=>⟨g,cap,cur,h1,gH hB h2,h3⟩⟩
def BJ(L x:Int):List Int:=if L=0 then [] else [x]
theorem CN(i:Ay)(r:Rw):AG i r=(BJ r.a i.a++BJ r.b i.b)++BJ r.c i.c:=by unfold AG BJ;simp
theorem Da(L x:Int):(BJ L x).length<=1:=by unfold BJ;split<;>simp
structure Kl(w:World)(G C:Nat)(L1 L2 L3 A B E:Int)(v:World):Prop where
 bel:Below w.heap.size w v
 hC:w.heap.size<C
 hG:G<C
 le:C<=v.heap.size
 r1:v.cell? ⟨w.heap.size,1,none⟩=some (.int .i64 L1)
 r2:v.cell? ⟨w.heap.size,2,none⟩=some (.int .i64 L2)
 r3:v.cell? ⟨w.heap.size,3,none⟩=some (.int .i64 L3)
 g1:v.cell? ⟨G,1,none⟩=some (.int .i64 A)
 g2:v.cell? ⟨G,2,none⟩=some (.int .i64 B)
 g3:v.cell? ⟨G,3,none⟩=some (.int .i64 E)
theorem Kl.next{w:World}{G C:Nat}{L1 L2 L3 A B E:Int}{v v':World}(h:Kl w G C L1 L2 L3 A B E v)(k:Below C v v'):Kl w G C L1 L2 L3 A B E v':=by
 have c1:∀ {a:Addr} {u:Value},a.block<C->v.cell? a=some u->v'.cell? a=some u:=fun ha hu=>(k.cell ha).trans hu;exact⟨h.bel.trans (k.mono (Nat.le_of_lt h.hC)),h.hC,h.hG,gH h.le k.size,c1 h.hC h.r1,c1 h.hC h.r2,c1 h.hC h.r3,c1 h.hG h.g1,c1 h.hG h.g2,c1 h.hG h.g3⟩
theorem FB(b o:Nat)(i:Ay)(r:Rw)(w:World)(hi:Al w b o (C9 i)):
 Calls prog 45 #[Bn r,.pointer (some ⟨b,o,none⟩)] w fun e w'=>∃v,e=.returned v/\w'.ownsRow w.heap.size 3 1 v (AG i r).length (Be (AG i r))/\Below w.heap.size w w':=by
 rw[CN];have KR:=fun w k=>C6 b o i w k;have HI0:Hid (Al w b o (C9 i)):=hi;obtain⟨i0,hi0,hz0,hz1,hz3⟩:=info_parts DC;obtain⟨L0,L1,L2,L3,L4⟩:=r;obtain⟨io,D,A,B,E,n,bt⟩:=i;unfold Bn;simp only at KR |-;have HKR:Hid (∀w,Al w b o (C9 ⟨io,D,A,B,E,n,bt⟩)->Calls prog 62 #[.pointer (some ⟨b,o,none⟩)] w fun e w'=>e=.returned (.agg #[.int .i64 D,.int .i64 A,.int .i64 B,.int .i64 E])/\Below w.heap.size w w'):=KR;clear KR hi;obtain⟨R,hR⟩:=gA ((BJ L1 A++BJ L2 B)++BJ L3 E)
 rw[hR];have HR:Hid ((BJ L1 A++BJ L2 B)++BJ L3 E=R):=hR;clear hR;go_enter func45,ntmps45;go_wp2_with(go_at_call 62;refine(HKR.out _ (HI0.below (A0 _ _))).mono ?_;rintro e w1 ⟨rfl,hb1⟩);have HF1:Hid (Kl w w1.heap.size (w1.heap.size+1) L1 L2 L3 A B E (w1.alloc (.cells #[.int .i64 D,.int .i64 A,.int .i64 B,.int .i64 E] 109))):=by
  have hs:=hb1.size;simp at hs;exact⟨bel (bel (A0 _ _) hb1) (A0 _ _),oM,oM,sM,kc (A0 _ _) (kc hb1 sG),kc (A0 _ _) (kc hb1 sG),kc (A0 _ _) (kc hb1 sG),sG,sG,sG⟩
 obtain⟨G,hG⟩:=gA (w1.heap.size)
 obtain⟨W,hW⟩:=gA (w1.alloc (.cells #[.int .i64 D,.int .i64 A,.int .i64 B,.int .i64 E] 109))
 rw[hW]at HF1 |-;rw[hG]at HF1 |-;clear hG hW
 go_loopw [5,7] (fun lv iv wr=>Kl w G (G+1) L1 L2 L3 A B E wr/\∃ (j:Nat) (l:List Int),1<=j/\j<=4/\iv=.int .i64 j/\l.length<=j-1/\Hid (wr.ownsRow (G+1) 3 1 lv l.length (Be l))/\Hid ((j=1->l=[])/\(j=2->l=BJ L1 A)/\(j=3->l=BJ L1 A++BJ L2 B)/\(j=4->l=(BJ L1 A++BJ L2 B)++BJ L3 E))) (fun _ iv _=>4-(intOf iv).toNat)
 case atStart=>exact⟨HF1.out,1,[],oM,oM,rfl,sM,World.ownsRow_nil _ _ _ 1,⟨fun _=>rfl,fun h=>absurd h oM,fun h=>absurd h oM,fun h=>absurd h oM⟩⟩
 case round=>
  clear HF1 HKR hb1;obtain⟨hF,j,l,hj1,hj,rfl,hll,HO,HL⟩:=hrel;have HF:Hid (Kl w G (G+1) L1 L2 L3 A B E wr):=hF;have hGw:=hF.le;have hn1:G≠wr.heap.size:=oM;have hn2:w.heap.size≠wr.heap.size:=by have:=hF.hC;omega
  obtain rfl|rfl|rfl|rfl:j=1\/j=2\/j=3\/j=4:=oM
  .have r0:=hF.r1;have g0:=hF.g1;have f0:=kc (A0 wr (.cells #[.int .i64 A] 3)) g0;have hl0:=HL.1 rfl;clear hF;by_cases hz:L1=0
   .have hz':(L1 != 0)=false:=by simpa using hz
    have hz2:(L1==0)=true:=by simpa using hz
    have HZ:Hid (L1=0):=hz;clear hz;go_wp2;go_roundw
    case rel=>exact⟨HF.out,2,l,oM,oM,by first|rfl|go_num,oM,HO,⟨fun h=>absurd h oM,fun _=>by rw[hl0];unfold BJ;simp[HZ.out],fun h=>absurd h oM,fun h=>absurd h oM⟩⟩
    case measure=>simp[intOf]
   .have hz':(L1 != 0)=true:=by simpa using hz
    have hz2:(L1==0)=false:=by simpa using hz
    have HZ:Hid (¬L1=0):=hz;clear hz;go_wp2_with(first
     |(at_builtin;refine wpList_append_own_at _ rfl _ _ 68 rfl (G+1) 3 i0 _ 1 8 underlying68 hi0 hz0 hz1 hz3 rfl dE _ l.length (Be l) rfl (World.ownsRow.alloc HO.out _) ⟨wr.heap.size,0,none⟩ 1 1 [.int .i64 A] rfl rfl (World.news_of_block (cs:=#[.int .i64 A]) (t:=3) (fr:=(0,0)) (heap_alloc_new wr _)) JJ mL oM sO ?_;intro v' w3 hown3 hgrow hnil hat;have HO3:Hid (w3.ownsRow (G+1) 3 1 v' (l.length+1) (Be l++[.int .i64 A])):=hown3;have HB3:Hid (Below (G+1) wr w3):=(Below.alloc (Below.refl _ _) hGw _).grown hgrow sO (fun q e=>(HO.lt q e).1);clear hown3 hgrow hnil hat))
    go_roundw
    case rel=>exact⟨HF.next HB3.out,2,l++[A],oM,oM,by first|rfl|go_num,sO,by show _;rw[List.length_append,Br];exact HO3.out,⟨fun h=>absurd h oM,fun _=>by rw[hl0,show BJ L1 A=[A]from if_neg HZ.out];try rfl,fun h=>absurd h oM,fun h=>absurd h oM⟩⟩
    case measure=>simp[intOf]
  .have r0:=hF.r2;have g0:=hF.g2;have f0:=kc (A0 wr (.cells #[.int .i64 B] 3)) g0;have hl0:=HL.2.1 rfl;clear hF;by_cases hz:L2=0
   .have hz':(L2 != 0)=false:=by simpa using hz
    have hz2:(L2==0)=true:=by simpa using hz
    have HZ:Hid (L2=0):=hz;clear hz;go_wp2;go_roundw
    case rel=>exact⟨HF.out,3,l,oM,oM,by first|rfl|go_num,oM,HO,⟨fun h=>absurd h oM,fun h=>absurd h oM,fun _=>by rw[hl0];unfold BJ;simp[HZ.out],fun h=>absurd h oM⟩⟩
    case measure=>simp[intOf]
   .have hz':(L2 != 0)=true:=by simpa using hz
    have hz2:(L2==0)=false:=by simpa using hz
    have HZ:Hid (¬L2=0):=hz;clear hz;go_wp2_with(first
     |(at_builtin;refine wpList_append_own_at _ rfl _ _ 68 rfl (G+1) 3 i0 _ 1 8 underlying68 hi0 hz0 hz1 hz3 rfl dE _ l.length (Be l) rfl (World.ownsRow.alloc HO.out _) ⟨wr.heap.size,0,none⟩ 1 1 [.int .i64 B] rfl rfl (World.news_of_block (cs:=#[.int .i64 B]) (t:=3) (fr:=(0,0)) (heap_alloc_new wr _)) JJ mL oM sO ?_;intro v' w3 hown3 hgrow hnil hat;have HO3:Hid (w3.ownsRow (G+1) 3 1 v' (l.length+1) (Be l++[.int .i64 B])):=hown3;have HB3:Hid (Below (G+1) wr w3):=(Below.alloc (Below.refl _ _) hGw _).grown hgrow sO (fun q e=>(HO.lt q e).1);clear hown3 hgrow hnil hat))
    go_roundw
    case rel=>exact⟨HF.next HB3.out,3,l++[B],oM,oM,by first|rfl|go_num,sO,by show _;rw[List.length_append,Br];exact HO3.out,⟨fun h=>absurd h oM,fun h=>absurd h oM,fun _=>by rw[hl0,show BJ L2 B=[B]from if_neg HZ.out];try rfl,fun h=>absurd h oM⟩⟩
    case measure=>simp[intOf]
  .have r0:=hF.r3;have g0:=hF.g3;have f0:=kc (A0 wr (.cells #[.int .i64 E] 3)) g0;have hl0:=HL.2.2.1 rfl;clear hF;by_cases hz:L3=0
   .have hz':(L3 != 0)=false:=by simpa using hz
    have hz2:(L3==0)=true:=by simpa using hz
    have HZ:Hid (L3=0):=hz;clear hz;go_wp2;go_roundw
    case rel=>exact⟨HF.out,4,l,oM,oM,by first|rfl|go_num,oM,HO,⟨fun h=>absurd h oM,fun h=>absurd h oM,fun h=>absurd h oM,fun _=>by rw[hl0];unfold BJ;simp[HZ.out]⟩⟩
    case measure=>simp[intOf]
   .have hz':(L3 != 0)=true:=by simpa using hz
    have hz2:(L3==0)=false:=by simpa using hz
    have HZ:Hid (¬L3=0):=hz;clear hz;go_wp2_with(first
     |(at_builtin;refine wpList_append_own_at _ rfl _ _ 68 rfl (G+1) 3 i0 _ 1 8 underlying68 hi0 hz0 hz1 hz3 rfl dE _ l.length (Be l) rfl (World.ownsRow.alloc HO.out _) ⟨wr.heap.size,0,none⟩ 1 1 [.int .i64 E] rfl rfl (World.news_of_block (cs:=#[.int .i64 E]) (t:=3) (fr:=(0,0)) (heap_alloc_new wr _)) JJ mL oM sO ?_;intro v' w3 hown3 hgrow hnil hat;have HO3:Hid (w3.ownsRow (G+1) 3 1 v' (l.length+1) (Be l++[.int .i64 E])):=hown3;have HB3:Hid (Below (G+1) wr w3):=(Below.alloc (Below.refl _ _) hGw _).grown hgrow sO (fun q e=>(HO.lt q e).1);clear hown3 hgrow hnil hat))
    go_roundw
    case rel=>exact⟨HF.next HB3.out,4,l++[E],oM,oM,by first|rfl|go_num,sO,by show _;rw[List.length_append,Br];exact HO3.out,⟨fun h=>absurd h oM,fun h=>absurd h oM,fun h=>absurd h oM,fun _=>by rw[hl0,show BJ L3 E=[E]from if_neg HZ.out];try rfl⟩⟩
    case measure=>simp[intOf]
  .exact Mo
def JT(b:Bk):List Value:=[.bool b.loop,.int .i64 b.par,.int .i64 b.ahead]
def B4(l:List Bk):List Value:=l.flatMap JT
theorem Ce(l:List Bk)(b:Bk):B4 (l++[b])=B4 l++JT b:=by simp[B4]
theorem Bx:∀l:List Bk,(B4 l).length=l.length*3
 |[]=>rfl
 |b::l=>by
  have e:B4 (b::l)=JT b++B4 l:=by simp[B4]
  rw[e,List.length_append,Bx l];simp[JT];omega
theorem Cc(l:List Bk)(b:Bk)(j:Nat){u:Value}(h:(JT b)[j]? =some u):(B4 (l++[b]))[l.length*3+j]? =some u:=by
 rw[Ce,List.getElem?_append_right (by rw[Bx];omega),Bx,Nat.add_sub_cancel_left];exact h
def CC(l:List Nat):List Value:=l.map fun(x:Nat)=>Value.int .i64 (x:Int)
theorem H6(l:List Nat)(x:Nat):CC (l++[x])=CC l++[.int .i64 (x:Int)]:=by simp[CC]
theorem H7(l:List Nat)(n:Nat):(CC l).take n=CC (l.take n):=by simp[CC,List.map_take]
def KK(C gi n:Nat)(vs vo:Value)(j:Nat):Value:=if j=0 then .pointer (some ⟨C,0,none⟩)else if j=1 then .slice (some ⟨gi,0,none⟩) n n else if j=2 then vs else vo
structure WS(E G C n gi:Nat)(vs vo:Value)(w:World)(s:Wk):Prop where
 g:w.rowIs G 71 4 (KK C gi n vs vo)
 i:w.rowIs gi 4 n (fun j=>.bool (decide (j∈s.set)))
 set:w.ownsRow E 3 1 vs s.set.length (CC s.set)
 opn:w.ownsRow E 114 3 vo s.opens.length (B4 s.opens.reverse)
 hG:E<=G
 hgi:E<=gi
 n1:gi≠G
 n2:vs.ownBlock≠some G
 n3:vs.ownBlock≠some gi
 n4:vo.ownBlock≠some G
 n5:vo.ownBlock≠some gi
 n6:∀b,vs.ownBlock=some b->vo.ownBlock≠some b
section
variable {E G C n gi : Nat} {vs vo : Value} {w w' : World} {s : Wk}
theorem WS.below(h:WS E G C n gi vs vo w s)(k:Below w.heap.size w w'):WS E G C n gi vs vo w' s:=
 ⟨h.g.of_block (k.block _ h.g.lt),h.i.of_block (k.block _ h.i.lt),AA h.set k,AA h.opn k,h.hG,h.hgi,h.n1,h.n2,h.n3,h.n4,h.n5,h.n6⟩
theorem WS.c0(h:WS E G C n gi vs vo w s):w.cell? ⟨G,0,none⟩=some (.pointer (some ⟨C,0,none⟩)):=h.g.cell (i:=0) dE
theorem WS.c1(h:WS E G C n gi vs vo w s):w.cell? ⟨G,1,none⟩=some (.slice (some ⟨gi,0,none⟩) n n):=h.g.cell (i:=1) dE
theorem WS.c2(h:WS E G C n gi vs vo w s):w.cell? ⟨G,2,none⟩=some vs:=h.g.cell (i:=2) dE
theorem WS.c3(h:WS E G C n gi vs vo w s):w.cell? ⟨G,3,none⟩=some vo:=h.g.cell (i:=3) dE
theorem WS.lt(h:WS E G C n gi vs vo w s):E<=w.heap.size:=gH h.hG (Nat.le_of_lt h.g.lt)
end
theorem DU(E G C n gi:Nat)(vs vo:Value)(s:Wk)(w:World)(h:WS E G C n gi vs vo w s)(hn:s.opens.length<=64):
 Calls prog 65 #[.pointer (some ⟨G,0,none⟩)] w fun e w'=>(∃A:Int,e=.returned (.tuple #[.agg #[.bool (Au s),.int .i64 (B5 s),.int .i64 A],.bool (!s.opens.isEmpty)]))/\Below w.heap.size w w':=by
 have c3:=h.c3;have ho:=h.opn;have hG:=h.g.lt;have nG:G≠w.heap.size:=oM;obtain⟨X,O⟩:=s;cases O with
 |nil=>
  obtain⟨p,q,rfl⟩:=As ho;unfold Au B5;simp only[List.isEmpty_nil,Bool.not_true]at c3 |-;have f3:(w.alloc (.cells #[.bool false,.int .i64 0,.int .i64 0] 114)).cell? ⟨G,3,none⟩=some (.slice p 0 q):=kc (A0 _ _) c3;clear ho h;go_enter func65,ntmps65;go_wp2;refine bodyPost_ret (by simp[results,results65,go_sem];try rfl) rfl ?_;exact⟨⟨0,rfl⟩,gG⟩
 |cons b r=>
  obtain⟨g,cap,rfl,hE,hg,hc1,hc2,hcl⟩:=Cj ho sM;unfold Au B5;simp only[List.isEmpty_cons,Bool.not_false]at c3 |-;obtain⟨L,P,A⟩:=b;simp only[List.reverse_cons]at hcl;have hl:r.reverse.length=r.length:=List.length_reverse;have x0:=hcl (r.length*3) (.bool L) Mv;have x1:=hcl (r.length*3+1) (.int .i64 P) Mu;have x2:=hcl (r.length*3+2) (.int .i64 A) Mt;simp only[List.length_cons]at c3 hn hc1;obtain⟨m,hm⟩:=gA (r.length)
  rw[hm]at x0 x1 x2 c3 hn hc1;obtain⟨N,hN⟩:=gA (m+1)
  rw[hN]at c3 hn hc1;have hw:IntKind.i64.wrap ((N:Int)-1)=(m:Int):=by rw[IntKind.wrap_i64];omega
  have h0:((N:Int)==0)=false:=by have:(N:Int)≠0:=oM;simpa using this
  have h0':(N==0)=false:=by have:N≠0:=oM;simpa using this
  have i1:(0:Int)<=(m:Int):=oM;have i2:(m:Int)<(N:Int):=oM;have ng:g≠w.heap.size:=oM;have f3:(w.alloc (.cells #[.bool false,.int .i64 0,.int .i64 0] 114)).cell? ⟨G,3,none⟩=some (.slice (some ⟨g,0,none⟩) N cap):=kc (A0 _ _) c3;have y0:(w.alloc (.cells #[.bool false,.int .i64 0,.int .i64 0] 114)).cell? ⟨g,m*3,none⟩=some (.bool L):=kc (A0 _ _) x0;have y1:(w.alloc (.cells #[.bool false,.int .i64 0,.int .i64 0] 114)).cell? ⟨g,m*3+1,none⟩=some (.int .i64 P):=kc (A0 _ _) x1;have y2:(w.alloc (.cells #[.bool false,.int .i64 0,.int .i64 0] 114)).cell? ⟨g,m*3+2,none⟩=some (.int .i64 (A:Int)):=kc (A0 _ _) x2;have HN:Hid (m+1=N):=hN;clear hcl ho h hm hl hN hE;go_enter func65,ntmps65;go_wp2;refine rG (fun v=>v.cell? ⟨G,3,none⟩=some (.slice (some ⟨g,0,none⟩) N cap)/\v.cell? ⟨g,m*3,none⟩=some (.bool L)/\v.cell? ⟨g,m*3+1,none⟩=some (.int .i64 P)/\v.cell? ⟨g,m*3+2,none⟩=some (.int .i64 (A:Int))) fun hJ=>?_;refine wpAnyH_take (i:=0) (v:=?_) A5 kR kR kR A6 (Or.inl ⟨rF,?_⟩) A7 ?_
  rotate_left 1
  ·(intro wS hSw;(try dsimp only at hSw);go_simp;try(with_reducible rfl))
  try simp only[Act.put,List.setIfInBounds_toArray,List.set_cons_zero,List.set_cons_succ]
  refine wpAnyH_take (i:=1) (v:=?_) A5 kR kR kR A6 (Or.inl ⟨rF,?_⟩) A7 ?_
  rotate_left 1
  ·(intro wS hSw;(try dsimp only at hSw);go_simp;try(with_reducible rfl))
  try simp only[Act.put,List.setIfInBounds_toArray,List.set_cons_zero,List.set_cons_succ]
  refine wpAnyH_take (i:=2) (v:=?_) A5 kR kR kR A6 (Or.inl ⟨rF,?_⟩) A7 ?_
  rotate_left 1
  ·(intro wS hSw;(try dsimp only at hSw);go_simp;try(with_reducible rfl))
  try simp only[Act.put,List.setIfInBounds_toArray,List.set_cons_zero,List.set_cons_succ]
  refine wpAnyH_take (i:=3) (v:=?_) A5 kR kR kR A6 (Or.inl ⟨rF,?_⟩) A7 ?_
  rotate_left 1
  ·(intro wS hSw;(try dsimp only at hSw);go_simp;try(with_reducible rfl))
  try simp only[Act.put,List.setIfInBounds_toArray,List.set_cons_zero,List.set_cons_succ]
  refine wpAnyH_take (i:=4) (v:=?_) A5 kR kR kR A6 (Or.inl ⟨rF,?_⟩) A7 ?_
  rotate_left 1
  ·(intro wS hSw;(try dsimp only at hSw);go_simp;try(with_reducible rfl))
  try simp only[Act.put,List.setIfInBounds_toArray,List.set_cons_zero,List.set_cons_succ]
  refine wpAnyH_take (i:=5) (v:=?_) A5 kR kR kR A6 (Or.inl ⟨rF,?_⟩) A7 ?_
  rotate_left 1
  ·(intro wS hSw;(try dsimp only at hSw);go_simp;try(with_reducible rfl))
  try simp only[Act.put,List.setIfInBounds_toArray,List.set_cons_zero,List.set_cons_succ]
  refine wpAnyH_take (i:=6) (v:=?_) A5 kR kR kR A6 (Or.inl ⟨rF,?_⟩) A7 ?_
  rotate_left 1
  ·(intro wS hSw;(try dsimp only at hSw);go_simp;try(with_reducible rfl))
  try simp only[Act.put,List.setIfInBounds_toArray,List.set_cons_zero,List.set_cons_succ]
  refine wpAnyH_take (i:=7) (v:=?_) A5 kR kR kR A6 (Or.inl ⟨rF,?_⟩) A7 ?_
  rotate_left 1
  ·(intro wS hSw;(try dsimp only at hSw);go_simp;try(with_reducible rfl))
  try simp only[Act.put,List.setIfInBounds_toArray,List.set_cons_zero,List.set_cons_succ]
  refine wpAnyH_take (i:=8) (v:=?_) A5 kR kR kR A6 (Or.inl ⟨rF,?_⟩) A7 ?_
  rotate_left 1
  ·(intro wS hSw;(try dsimp only at hSw);go_simp;try(with_reducible rfl))
  try simp only[Act.put,List.setIfInBounds_toArray,List.set_cons_zero,List.set_cons_succ]
  refine wpAnyH_take (i:=9) (v:=?_) A5 kR kR kR A6 (Or.inl ⟨rF,?_⟩) A7 ?_
  rotate_left 1
  ·(intro wS hSw;(try dsimp only at hSw);go_simp;try(with_reducible rfl))
  try simp only[Act.put,List.setIfInBounds_toArray,List.set_cons_zero,List.set_cons_succ]
  refine wpAnyH_take (i:=10) (v:=?_) A5 kR kR kR A6 (Or.inl ⟨rF,?_⟩) A7 ?_
  rotate_left 1
  ·(intro wS hSw;(try dsimp only at hSw);go_simp;try(with_reducible rfl))
  try simp only[Act.put,List.setIfInBounds_toArray,List.set_cons_zero,List.set_cons_succ]
  refine wpAnyH_take (i:=11) (v:=?_) A5 kR kR kR A6 (Or.inl ⟨rF,?_⟩) A7 ?_
  rotate_left 1
  ·(intro wS hSw;(try dsimp only at hSw);go_simp;try(with_reducible rfl))
  try simp only[Act.put,List.setIfInBounds_toArray,List.set_cons_zero,List.set_cons_succ]
  clear hJ;refine AH 12 fun K hK=>?_;go_simp;refine AO hK fun hJ=>?_;clear hK K;refine wpAnyH_take (i:=13) (v:=?_) A5 kR kR kR A6 (Or.inl ⟨rF,?_⟩) A7 ?_
  rotate_left 1
  ·(intro wS hSw;(try dsimp only at hSw);go_simp;try(with_reducible rfl))
  try simp only[Act.put,List.setIfInBounds_toArray,List.set_cons_zero,List.set_cons_succ]
  refine wpAnyH_done kR ?_ _;go_wp2;refine bodyPost_ret (by simp[results,results65,go_sem];try rfl) rfl ?_;exact⟨⟨_,rfl⟩,gG⟩
theorem C5(op:Int)(w:World):Calls prog 31 #[.int .i64 op] w fun e w'=>e=.returned (.bool (Aw op))/\w'=w:=by
 unfold Aw;by_cases h:3<=op
 all_goals
  go_enter func31,ntmps31;exact Li
theorem Fq(op:Int)(w:World):Calls prog 66 #[.int .i64 op] w fun e w'=>e=.returned (.bool (B2 op))/\w'=w:=by
 have HK:Hid (∀w,Calls prog 31 #[.int .i64 op] w fun e w'=>e=.returned (.bool (Aw op))/\w'=w):=C5 op;by_cases h:29<=op/\op<=33
 .have hl:B2 op=true:=by unfold B2;simp;omega
  rw[hl];obtain rfl|rfl|rfl|rfl|rfl:op=29\/op=30\/op=31\/op=32\/op=33:=oM
  all_goals
   clear h hl HK;go_enter func66,ntmps66;go_wp2;go_ret;exact⟨rfl,rfl⟩
 .have hl:B2 op=Aw op:=by
   unfold B2;have:(decide (29<=op)&&decide (op<=33))=false:=sO;rw[this];rfl
  rw[hl];have e1:(op==29)=false:=by have:op≠29:=oM;simpa using this
  have e2:(op==30)=false:=by have:op≠30:=oM;simpa using this
  have e3:(op==31)=false:=by have:op≠31:=oM;simpa using this
  have e4:(op==32)=false:=by have:op≠32:=oM;simpa using this
  have e5:(op==33)=false:=by have:op≠33:=oM;simpa using this
  clear h hl;go_enter func66,ntmps66;go_wp2_with(go_at_call 31;refine(HK.out _).mono ?_;rintro e w1 ⟨rfl,rfl⟩);go_ret;exact⟨rfl,rfl⟩
theorem Ch(s:ByteArray):(s.toList==[])=(s.size==0):=by
 rw[Bool.eq_iff_iff];simp only[beq_iff_eq];constructor
 .intro h;rw[ByteArray.toList_eq]at h;show s.data.size=0;rw[<-Array.length_toList,h];rfl
 .intro h;rw[ByteArray.toList_eq];exact List.eq_nil_of_length_eq_zero (by rw[Array.length_toList];exact h)
theorem Bo(s:ByteArray):s.toList.isEmpty=(s.size==0):=by
 rw[<-Ch,Bool.eq_iff_iff];simp
theorem E4{s:ByteArray}{j:Nat}(h:j<s.size)(hq:D5 (s[j].toNat:Int)=false):AF s=false:=by
 unfold AF;have:((bs s).all fun b=>D5 (nb b))=false:=by
  rw[List.all_eq_false];exact⟨s[j],by unfold bs;exact Array.mem_toList_iff.2 (Array.getElem_mem (xs:=s.data) h),by simp[nb,hq]⟩
 rw[this,Bool.and_false]
theorem Fs{s:ByteArray}(h0:s.size≠0)(h1:s.size<=64)(h:∀j (h:j<s.size),D5 (s[j].toNat:Int)=true):AF s=true:=by
 unfold AF;have:((bs s).all fun b=>D5 (nb b))=true:=by
  rw[List.all_eq_true];intro b hb;obtain⟨j,hj,rfl⟩:=List.mem_iff_getElem.1 hb;exact h j (by rw[<-GC];exact hj)
 rw[this];simp[h0,h1]
theorem FD(s:ByteArray)(hs:s.size<=140737488351232)(w:World):
 Calls prog 68 #[.string s] w fun e w'=>e=.returned (.bool (AF s))/\w'=w:=by
 by_cases h0:s.size=0
 .have he:s.toList.isEmpty=true:=by rw[Bo];simp[h0]
  have he2:(s.toList==[])=true:=by rw[Ch];simp[h0]
  have hf:AF s=false:=by unfold AF;simp[h0]
  rw[hf];go_enter func68,ntmps68;go_wp2
  all_goals(go_ret;exact⟨rfl,rfl⟩)
 .have he:s.toList.isEmpty=false:=by rw[Bo];simp[h0]
  have he2:(s.toList==[])=false:=by rw[Ch];simp[h0]
  by_cases h64:s.size<=64
  .have h64':¬ ((64:Int)<(s.size:Int)):=oM;go_enter func68,ntmps68;go_wp2
   go_loopw [3] (fun iv wr=>wr=w/\∃j:Nat,j<=s.size/\iv=.int .i64 j/\Hid (∀i (h:i<s.size),i<j->D5 (s[i].toNat:Int)=true)) (fun iv _=>s.size-(intOf iv).toNat)
   case atStart=>exact⟨rfl,0,gI _,rfl,fun i h hi=>absurd hi (Nat.not_lt_zero _)⟩
   case round=>
    obtain⟨rfl,j,hj,rfl,hp⟩:=hrel;by_cases hlt:j<s.size
    .have i1:(0:Int)<=(j:Int):=oM;have i2:(j:Int)<(s.size:Int):=oM;have NX:Hid (D5 (s[j].toNat:Int)=true->∀i (h:i<s.size),i<j+1->D5 (s[i].toNat:Int)=true):=fun hq i h hi=>by
      exact JP
     have NB:Hid (D5 (s[j].toNat:Int)=false->AF s=false):=fun h=>E4 hlt h;go_upto_region 7 with(fail)
     obtain⟨c,hc⟩:∃c:Int,(s[j].toNat:Int)=c:=⟨_,rfl⟩
     have hc2:0<=c/\c<=255:=by have:=s[j].toNat_lt;omega
     rw[hc]at NX NB |-;clear hc;go_cut [59] (fun cv wx=>cv=.bool (!D5 c)/\wx=wr)
     case first=>
      have hcl:(0<=c/\c<=44)\/(c=45)\/(c=46)\/(c=47)\/(48<=c/\c<=57)\/(58<=c/\c<=64)\/(65<=c/\c<=90)\/(91<=c/\c<=94)\/(c=95)\/(c=96)\/(97<=c/\c<=122)\/(123<=c/\c<=255):=oM;rcases hcl with h|h|h|h|h|h|h|h|h|h|h|h
      .have f97:¬ (97:Int)<=c:=oM;have f65:¬ (65:Int)<=c:=oM;have f48:¬ (48:Int)<=c:=oM;have g122:c<=(122:Int):=oM;have g90:c<=(90:Int):=oM;have g57:c<=(57:Int):=oM;exact Ks
      .have f97:¬ (97:Int)<=c:=oM;have f65:¬ (65:Int)<=c:=oM;have f48:¬ (48:Int)<=c:=oM;have g122:c<=(122:Int):=oM;have g90:c<=(90:Int):=oM;have g57:c<=(57:Int):=oM;have e95:(c==(95:Int))=false:=by rw[beq_eq_false_iff_ne];omega
       have e46:(c==(46:Int))=false:=by rw[beq_eq_false_iff_ne];omega
       have e47:(c==(47:Int))=false:=by rw[beq_eq_false_iff_ne];omega
       have e45:(c==(45:Int))=true:=sO;have hp2:D5 c=true:=by unfold D5;simp[*]
       clear h hp NX NB;go_wp2;go_meet;exact⟨by rw[hp2];rfl,rfl⟩
      .have f97:¬ (97:Int)<=c:=oM;have f65:¬ (65:Int)<=c:=oM;have f48:¬ (48:Int)<=c:=oM;have g122:c<=(122:Int):=oM;have g90:c<=(90:Int):=oM;have g57:c<=(57:Int):=oM;have e95:(c==(95:Int))=false:=by rw[beq_eq_false_iff_ne];omega
       have e46:(c==(46:Int))=true:=sO;exact Kt
      .have f97:¬ (97:Int)<=c:=oM;have f65:¬ (65:Int)<=c:=oM;have f48:¬ (48:Int)<=c:=oM;have g122:c<=(122:Int):=oM;have g90:c<=(90:Int):=oM;have g57:c<=(57:Int):=oM;have e95:(c==(95:Int))=false:=by rw[beq_eq_false_iff_ne];omega
       have e46:(c==(46:Int))=false:=by rw[beq_eq_false_iff_ne];omega
       have e47:(c==(47:Int))=true:=sO;have e45:(c==(45:Int))=false:=by rw[beq_eq_false_iff_ne];omega
       have hp2:D5 c=true:=by unfold D5;simp[*]
       clear h hp NX NB;go_wp2;go_meet;exact⟨by rw[hp2];rfl,rfl⟩
      .have f97:¬ (97:Int)<=c:=oM;have f65:¬ (65:Int)<=c:=oM;have f48:(48:Int)<=c:=oM;have g122:c<=(122:Int):=oM;have g90:c<=(90:Int):=oM;have g57:c<=(57:Int):=oM;have e95:(c==(95:Int))=false:=by rw[beq_eq_false_iff_ne];omega
       have e46:(c==(46:Int))=false:=by rw[beq_eq_false_iff_ne];omega
       exact Kt
      .have f97:¬ (97:Int)<=c:=oM;have f65:¬ (65:Int)<=c:=oM;have f48:(48:Int)<=c:=oM;have g122:c<=(122:Int):=oM;have g90:c<=(90:Int):=oM;have g57:¬c<=(57:Int):=oM;exact Ks
      .have f97:¬ (97:Int)<=c:=oM;have f65:(65:Int)<=c:=oM;have f48:(48:Int)<=c:=oM;have g122:c<=(122:Int):=oM;have g90:c<=(90:Int):=oM;have g57:¬c<=(57:Int):=oM;have e95:(c==(95:Int))=false:=by rw[beq_eq_false_iff_ne];omega
       have e46:(c==(46:Int))=false:=by rw[beq_eq_false_iff_ne];omega
       exact Kt
      .have f97:¬ (97:Int)<=c:=oM;have f65:(65:Int)<=c:=oM;have f48:(48:Int)<=c:=oM;have g122:c<=(122:Int):=oM;have g90:¬c<=(90:Int):=oM;have g57:¬c<=(57:Int):=oM;exact Ks
      .have f97:¬ (97:Int)<=c:=oM;have f65:(65:Int)<=c:=oM;have f48:(48:Int)<=c:=oM;have g122:c<=(122:Int):=oM;have g90:¬c<=(90:Int):=oM;have g57:¬c<=(57:Int):=oM;have e95:(c==(95:Int))=true:=sO;have e46:(c==(46:Int))=false:=by rw[beq_eq_false_iff_ne];omega
       exact Kt
      .have f97:¬ (97:Int)<=c:=oM;have f65:(65:Int)<=c:=oM;have f48:(48:Int)<=c:=oM;have g122:c<=(122:Int):=oM;have g90:¬c<=(90:Int):=oM;have g57:¬c<=(57:Int):=oM;exact Ks
      .have f97:(97:Int)<=c:=oM;have f65:(65:Int)<=c:=oM;have f48:(48:Int)<=c:=oM;have g122:c<=(122:Int):=oM;have g90:¬c<=(90:Int):=oM;have g57:¬c<=(57:Int):=oM;have e95:(c==(95:Int))=false:=by rw[beq_eq_false_iff_ne];omega
       have e46:(c==(46:Int))=false:=by rw[beq_eq_false_iff_ne];omega
       exact Kt
      .have f97:(97:Int)<=c:=oM;have f65:(65:Int)<=c:=oM;have f48:(48:Int)<=c:=oM;have g122:¬c<=(122:Int):=oM;have g90:¬c<=(90:Int):=oM;have g57:¬c<=(57:Int):=oM;exact Ks
     case rest=>
      obtain⟨rfl,rfl⟩:=hcut;cases hq:D5 c
      .have HB2:Hid (AF s=false):=NB.out hq;clear NX NB hp hc2;go_wp2;go_ret;exact⟨A9 HB2.symm,rfl⟩
      .have HP2:Hid (∀i (h:i<s.size),i<j+1->D5 (s[i].toNat:Int)=true):=NX.out hq;clear NX NB hp hc2;go_wp2;go_roundw
       case rel=>exact⟨by trivial,j+1,oM,gN,HP2.out⟩
       case measure=>simp[intOf];omega
    .exact Mn
  .have hf:AF s=false:=by unfold AF;simp[h0,h64]
   have h64':(64:Int)<(s.size:Int):=oM;rw[hf];go_enter func68,ntmps68;go_wp2
   all_goals(go_ret;exact⟨rfl,rfl⟩)
theorem Ej(p:AX):AW p=((AF p.name&&(p.kind==1||p.kind==2))&&(decide (1<=p.len)&&decide (p.len<=4096))):=rfl
theorem EI(p:AX)(hs:p.name.size<=140737488351232)(w:World):
 Calls prog 47 #[pv p] w fun e w'=>e=.returned (.bool (AW p))/\Below w.heap.size w w':=by
 rw[Ej];obtain⟨X,K,L⟩:=p;unfold pv;have KN:=FD X hs;simp only;obtain⟨N,hN⟩:=gA (AF X)
 rw[hN]at KN |-;have HK:Hid (∀w,Calls prog 68 #[.string X] w fun e w'=>e=.returned (.bool N)/\w'=w):=KN;clear KN hN;cases N
 .go_enter func47,ntmps47;go_wp2_with(go_at_call 68;refine(HK.out _).mono ?_;rintro e w1 ⟨rfl,rfl⟩);go_ret;exact⟨rfl,A0 _ _⟩
 .have hk:((K==1)=true/\(K==2)=false)\/((K==1)=false/\(K==2)=true)\/((K==1)=false/\(K==2)=false):=by
   exact Mk
  have hL:(1<=L/\L<=4096)\/(¬1<=L/\L<=4096)\/(1<=L/\¬L<=4096):=oM;rcases hk with⟨h1,h2⟩|⟨h1,h2⟩|⟨h1,h2⟩<;>rcases hL with⟨h3,h4⟩|⟨h3,h4⟩|⟨h3,h4⟩
  all_goals
   go_enter func47,ntmps47;go_wp2_with(go_at_call 68;refine(HK.out _).mono ?_;rintro e w1 ⟨rfl,rfl⟩);go_ret;exact⟨A9 (by simp[h1,h2,h3,h4]),A0 _ _⟩
theorem El(p:AX)(hs:p.name.size<=140737488351232)(w:World):
 Calls prog 69 #[pv p] w fun e w'=>e=.returned (.int .i64 (Cz p))/\Below w.heap.size w w':=by
 have KM:=EI p hs;have hm:AW p=true->1<=p.len/\p.len<=4096:=fun h=>by rw[Ej]at h;simp at h;exact h.2
 have hn:Cz p=if AW p then(if p.kind==2 then 2*p.len else p.len)else 0:=rfl;rw[hn];clear hn;obtain⟨N,hN⟩:=gA (AW p)
 rw[hN]at KM hm |-;clear hN hs;obtain⟨X,K,L⟩:=p;unfold pv at KM |-;simp only at hm KM |-;have HK:Hid (∀w,Calls prog 47 #[.agg #[.string X,.int .i64 K,.int .i64 L]] w fun e w'=>e=.returned (.bool N)/\Below w.heap.size w w'):=KM;clear KM;cases N
 .clear hm;go_enter func69,ntmps69;go_wp2_with(go_at_call 47;refine(HK.out _).mono ?_;rintro e w1 ⟨rfl,hb1⟩);exact Lk
 .have hL:=hm rfl;clear hm;cases h2:(K==2)
  .go_enter func69,ntmps69;go_wp2_with(go_at_call 47;refine(HK.out _).mono ?_;rintro e w1 ⟨rfl,hb1⟩;have c1:w1.cell? ⟨w.heap.size,1,none⟩=some (.int .i64 K):=(hb1.cell sM).trans sG;have c2:w1.cell? ⟨w.heap.size,2,none⟩=some (.int .i64 L):=(hb1.cell sM).trans sG);exact Lk
  .go_enter func69,ntmps69;go_wp2_with(go_at_call 47;refine(HK.out _).mono ?_;rintro e w1 ⟨rfl,hb1⟩;have c1:w1.cell? ⟨w.heap.size,1,none⟩=some (.int .i64 K):=(hb1.cell sM).trans sG;have c2:w1.cell? ⟨w.heap.size,2,none⟩=some (.int .i64 L):=(hb1.cell sM).trans sG);go_ret;exact⟨BS sM,bel (A0 _ _) hb1⟩
theorem Fb{a b:ByteArray}(h:(a.toList==b.toList)=true):a=b:=by
 rw[beq_iff_eq,ByteArray.toList_eq,ByteArray.toList_eq]at h;exact Hl h
theorem J7{a b:ByteArray}(h:a=b):(a.toList==b.toList)=true:=by rw[h];simp
theorem J8{a b:ByteArray}(h:a≠b):(a.toList==b.toList)=false:=by
 cases e:(a.toList==b.toList)
 .rfl
 .exact absurd (Fb e) h
theorem GV(v:Value)(l:List AX)(hl:l.length<=140737488351232)(s:ByteArray)(w:World)(hr:Rd w v l):
 Calls prog 48 #[v,.string s] w fun e w'=>e=.returned (.tuple #[.int .i64 ((Av s l).getD 0:Nat),.bool (Av s l).isSome])/\w'=w:=by
 obtain⟨p,c,rfl,hr⟩:=hr;obtain⟨n,hn⟩:=gA (l.length)
 rw[hn]at hl |-;have HN:Hid (l.length=n):=hn;have HR:Hid (He w p l):=hr;clear hn hr;go_enter func48,ntmps48;go_wp2
 go_loopw [6] (fun iv wr=>wr=w/\∃j:Nat,j<=n/\iv=.int .i64 j/\Hid (∀i (h:i<l.length),i<j->l[i].name≠s)) (fun iv _=>n-(intOf iv).toNat)
 case atStart=>exact⟨rfl,0,gI _,rfl,fun i h hi=>absurd hi (Nat.not_lt_zero _)⟩
 case round=>
  obtain⟨rfl,j,hj,rfl,hp⟩:=hrel;by_cases hlt:j<n
  .have hll:j<l.length:=by rw[HN.out];exact hlt
   obtain⟨b,o,rfl,x0,x1,x2⟩:=HR.at hll;have i1:(0:Int)<=(j:Int):=oM;have i2:(j:Int)<(n:Int):=oM;by_cases he:l[j].name=s
   .have HF:Hid (Av s l=some j):=E3 hll he hp.out;have he':=J7 he;clear hp he;go_wp2
    go_ret2
    exact⟨by rw[HF.out];rfl,rfl⟩
   .have HP2:Hid (∀i (h:i<l.length),i<j+1->l[i].name≠s):=fun i h hi=>by
     by_cases e:i=j
     .subst e;exact he
     .exact hp.out i h oM
    have he':=J8 he;clear hp he;go_wp2;go_roundw
    case rel=>exact⟨by trivial,j+1,oM,gN,HP2.out⟩
    case measure=>simp[intOf];omega
  .have:j=n:=oM;subst this;have HF:Hid (Av s l=none):=E2 fun i h=>hp.out i h (by rw[<-HN.out];exact h);clear hp;go_wp2
   go_ret2
   exact⟨by rw[HF.out];rfl,rfl⟩
theorem Fz(v:Value)(l:List AX)(hl:l.length<=140737488351232)(hM:∀p∈l,p.name.size<=140737488351232)(w:World)(hr:Rd w v l):
 Calls prog 49 #[v] w fun e w'=>e=.returned (.int .i64 (B6 l))/\Below w.heap.size w w':=by
 obtain⟨p,c,rfl,hr⟩:=hr;obtain⟨n,hn⟩:=gA (l.length)
 rw[hn]at hl |-;have HN:Hid (l.length=n):=hn;have HR:Hid (He w p l):=hr;have HM:Hid (∀p∈l,p.name.size<=140737488351232):=hM;clear hn hr hM;go_enter func49,ntmps49;go_wp2
 go_loopw [3,4] (fun tv iv wr=>Below w.heap.size w wr/\∃j:Nat,j<=n/\iv=.int .i64 j/\tv=.int .i64 (B6 (l.take j))) (fun _ iv _=>n-(intOf iv).toNat)
 case atStart=>exact⟨Bv w,0,gI _,rfl,rfl⟩
 case round=>
  obtain⟨hb,j,hj,rfl,rfl⟩:=hrel;by_cases hlt:j<n
  .have hll:j<l.length:=by rw[HN.out];exact hlt
   obtain⟨b,o,rfl,hx⟩:=HR.at hll;obtain⟨x0,x1,x2⟩:=hx.below hb;have i1:(0:Int)<=(j:Int):=oM;have i2:(j:Int)<(n:Int):=oM;have KN:=El l[j] (HM.out _ (gD hll));unfold pv at KN;have HK:Hid (∀w,Calls prog 69 #[.agg #[.string l[j].name,.int .i64 l[j].kind,.int .i64 l[j].len]] w fun e w'=>e=.returned (.int .i64 (Cz l[j]))/\Below w.heap.size w w'):=KN;have ht:B6 (l.take (j+1))=B6 (l.take j)+Cz l[j]:=by rw[De hll,F0]
   have hb1:=CF (l.take j);have hb2:=CA l[j];rw[List.length_take,HN.out,Nat.min_eq_left hj]at hb1;obtain⟨T,hT⟩:=gA (B6 (l.take j))
   obtain⟨U,hU⟩:=gA (Cz l[j])
   rw[hT,hU]at ht;rw[hT]at hb1 |-;rw[hU]at hb2 HK;have HT:Hid (B6 (l.take (j+1))=T+U):=ht;have hw1:IntKind.i64.wrap (T+U)=T+U:=by rw[IntKind.wrap_i64];omega
   clear KN ht hT hU hx;go_wp2_with(go_at_call 69;refine(HK.out _).mono ?_;rintro e w1 ⟨rfl,hb3⟩);go_roundw
   case rel=>exact⟨bel hb hb3,j+1,oM,gN,by rw[HT.out]⟩
   case measure=>simp[intOf];omega
  .exact Mj
theorem FO{s:ByteArray}:∀ {l:List AX} {k:Nat},Av s l=some k->k<l.length/\∀h:k<l.length,l[k].name=s
 |[],k,h=>by cases h
 |p::r,k,h=>by
  simp only[Av]at h;split at h
  .rename_i e;cases h
   exact⟨sM,fun _=>e⟩
  .cases hf:Av s r with
   |none=>rw[hf]at h;cases h
   |some m=>
    rw[hf]at h;cases h
    obtain⟨h1,h2⟩:=FO hf;exact⟨by simp;exact h1,fun _=>by simp only[List.getElem_cons_succ];exact h2 h1⟩
theorem Dq{s:ByteArray}:∀ {l:List AX} {i:Nat} (h:i<l.length),l[i].name=s->∃k,Av s l=some k/\k<=i
 |[],i,h,_=>absurd h (Nat.not_lt_zero _)
 |p::r,i,h,e=>by
  simp only[Av];split
  .exact⟨0,rfl,gI _⟩
  .rename_i hp;cases i with
   |zero=>exact absurd e hp
   |succ i=>
    obtain⟨k,hk,hki⟩:=Dq (l:=r) (i:=i) (by simpa using h) (by simpa using e);exact⟨k+1,by rw[hk];rfl,oM⟩
theorem IU{l:List AX}{i:Nat}(h:i<l.length)(hk:(Av l[i].name l).getD 0≠i):AD l=true:=by
 obtain⟨k,hk1,hk2⟩:=Dq (l:=l) h rfl;rw[hk1]at hk;obtain⟨h1,h2⟩:=FO hk1;have hne:k≠i:=hk;exact Df.2 ⟨i,k,h,h1,oM,h2 h1⟩
theorem Jj{l:List AX}(h:∀i (h:i<l.length),(Av l[i].name l).getD 0=i):AD l=false:=by
 cases ht:AD l
 .rfl
 .obtain⟨i,j,hi,hj,hji,e⟩:=Df.1 ht;obtain⟨k,hk,hkj⟩:=Dq (s:=l[i].name) hj e;have:=h i hi;rw[hk]at this;have:k=i:=this;omega
theorem DG(v:Value)(l:List AX)(hl:l.length<=140737488351232)(hM:∀p∈l,p.name.size<=140737488351232)(w:World)(hr:Rd w v l):
 Calls prog 32 #[v] w fun e w'=>e=.returned (.int .i64 (Ar l))/\Below w.heap.size w w':=by
 have KT:Hid (∀w,Rd w v l->Calls prog 49 #[v] w fun e w'=>e=.returned (.int .i64 (B6 l))/\Below w.heap.size w w'):=fun w h=>Fz v l hl hM w h;have KF:Hid (∀w s,Rd w v l->Calls prog 48 #[v,.string s] w fun e w'=>e=.returned (.tuple #[.int .i64 ((Av s l).getD 0:Nat),.bool (Av s l).isSome])/\w'=w):=fun w s h=>GV v l hl s w h;have HRD:Hid (Rd w v l):=hr;obtain⟨p,c,rfl,hr⟩:=hr;obtain⟨n,hn⟩:=gA (l.length)
 have HN:Hid (l.length=n):=hn;have HR:Hid (He w p l):=hr;have HM:Hid (∀p∈l,p.name.size<=140737488351232):=hM;have HC:Hid (Ar l=if n>64 then 2 else if l.all AW=false then 100 else if AD l then 101 else if B6 l>65536 then 102 else 0):=by
  show _=_;unfold Ar;rw[hn]
 rw[hn]at hl HRD KT KF |-;clear hn hr hM;by_cases h64:n<=64
 .have h64':¬ (64:Int)<(n:Int):=oM;have hng:¬n>64:=oM;have HC2:Hid (Ar l=if l.all AW=false then 100 else if AD l then 101 else if B6 l>65536 then 102 else 0):=by show _=_;rw[HC.out,if_neg hng]
  clear HC hng;go_enter func32,ntmps32;go_wp2
  go_loopw [3] (fun iv wr=>Below w.heap.size w wr/\∃j:Nat,j<=n/\iv=.int .i64 j/\Hid (∀i (h:i<l.length),i<j->AW l[i]=true)) (fun iv _=>n-(intOf iv).toNat)
  case atStart=>exact⟨Bv w,0,gI _,rfl,fun i h hi=>absurd hi (Nat.not_lt_zero _)⟩
  case round=>
   obtain⟨hb,j,hj,rfl,hp⟩:=hrel;by_cases hlt:j<n
   .have hll:j<l.length:=by rw[HN.out];exact hlt
    obtain⟨b,o,rfl,hx⟩:=HR.at hll;obtain⟨x0,x1,x2⟩:=hx.below hb;have i1:(0:Int)<=(j:Int):=oM;have i2:(j:Int)<(n:Int):=oM;have KM:=EI l[j] (HM.out _ (gD hll));unfold pv at KM;have HA:Hid (AW l[j]=false->l.all AW=false):=fun h=>List.all_eq_false.2 ⟨l[j],gD hll,by rw[h];decide⟩;have HB:Hid (AW l[j]=true->∀i (h:i<l.length),i<j+1->AW l[i]=true):=fun hq i h hi=>by
     exact JP
    obtain⟨M,hMM⟩:=gA (AW l[j])
    rw[hMM]at KM HA HB;have HK:Hid (∀w,Calls prog 47 #[.agg #[.string l[j].name,.int .i64 l[j].kind,.int .i64 l[j].len]] w fun e w'=>e=.returned (.bool M)/\Below w.heap.size w w'):=KM;clear KM hMM hx hp;cases M
    .have HA2:Hid (Ar l=100):=by show _=_;rw[HC2.out,if_pos (HA.out rfl)]
     clear HA HB;go_wp2_with(go_at_call 47;refine(HK.out _).mono ?_;rintro e w1 ⟨rfl,hb1⟩);go_ret;exact⟨BS HA2.symm,bel hb hb1⟩
    .have HB2:Hid (∀i (h:i<l.length),i<j+1->AW l[i]=true):=HB.out rfl;clear HA HB;go_wp2_with(go_at_call 47;refine(HK.out _).mono ?_;rintro e w1 ⟨rfl,hb1⟩);go_roundw
     case rel=>exact⟨bel hb hb1,j+1,oM,gN,HB2.out⟩
     case measure=>simp[intOf];omega
   .have:j=n:=oM;subst this;have hall:l.all AW=true:=List.all_eq_true.2 fun q hq=>by
     obtain⟨i,hi,rfl⟩:=List.mem_iff_getElem.1 hq;exact Ll
    have HC3:Hid (Ar l=if AD l then 101 else if B6 l>65536 then 102 else 0):=by show _=_;rw[HC2.out,if_neg (by rw[hall];decide)]
    clear hp hall HC2;go_wp2
    go_loopw [4] (fun iv wr=>Below w.heap.size w wr/\∃i:Nat,i<=j/\iv=.int .i64 i/\Hid (∀k (h:k<l.length),k<i->(Av l[k].name l).getD 0=k)) (fun iv _=>j-(intOf iv).toNat)
    case atStart=>exact⟨hb,0,gI _,rfl,fun i h hi=>absurd hi (Nat.not_lt_zero _)⟩
    case round=>
     obtain⟨hb',i,hi,rfl,hp⟩:=hrel;by_cases hlt':i<j
     .have hll:i<l.length:=by rw[HN.out];exact hlt'
      obtain⟨b,o,rfl,hx⟩:=HR.at hll;obtain⟨x0,x1,x2⟩:=hx.below hb';have i1:(0:Int)<=(i:Int):=oM;have i2:(i:Int)<(j:Int):=oM;have K1:=KF.out _ l[i].name (HRD.below hb');have hlo:=Dq (l:=l) hll rfl;obtain⟨k0,hk0,hk1⟩:=hlo;have T1:=IU (l:=l) hll;rw[hk0]at K1 T1;have HP0:Hid ((Av l[i].name l).getD 0=k0):=by show _=_;rw[hk0];rfl
      simp only[Option.getD_some,Option.isSome_some]at K1 T1;have HK:Hid (Calls prog 48 #[.slice (some ⟨b,o,none⟩) j c,.string l[i].name] _ fun e w'=>e=.returned (.tuple #[.int .i64 (k0:Int),.bool true])/\w'=_):=K1;clear K1 hk0 hx;by_cases hki:k0=i
      .have HB2:Hid (∀k (h:k<l.length),k<i+1->(Av l[k].name l).getD 0=k):=fun k h hk=>by
        by_cases e:k=i
        .subst e;rw[HP0.out,hki]
        .exact hp.out k h oM
       subst hki;clear T1 hp HP0;go_wp2_with(go_at_call 48;refine HK.mono ?_;rintro e w1 ⟨rfl,rfl⟩);go_roundw
       case rel=>exact⟨hb',k0+1,oM,gN,HB2.out⟩
       case measure=>simp[intOf];omega
      .have HA2:Hid (Ar l=101):=by show _=_;rw[HC3.out,if_pos (T1 hki)]
       have hne:((k0:Int)==(i:Int))=false:=by rw[beq_eq_false_iff_ne];omega
       have hne':((k0:Int) != (i:Int))=true:=by rw[bne,hne];rfl
       clear T1 hp HP0;go_wp2_with(go_at_call 48;refine HK.mono ?_;rintro e w1 ⟨rfl,rfl⟩);go_ret;exact⟨BS HA2.symm,hb'⟩
     .have:i=j:=oM;subst this;have hon:AD l=false:=Jj fun k h=>hp.out k h (by rw[<-HN.out];exact h);have HC4:Hid (Ar l=if B6 l>65536 then 102 else 0):=by show _=_;rw[HC3.out,hon];rfl
      have K1:=KT.out _ (HRD.below hb');obtain⟨T,hT⟩:=gA (B6 l)
      rw[hT]at HC4 K1;have HK:Hid (Calls prog 49 #[.slice p i c] _ fun e w'=>e=.returned (.int .i64 T)/\Below _ _ w'):=K1;clear K1 hT hp hon HC3;by_cases h6:T>65536
      .have HC5:Hid (Ar l=102):=by show _=_;rw[HC4.out,if_pos h6]
       have h6':(65536:Int)<T:=h6;exact Mq
      .have HC5:Hid (Ar l=0):=by show _=_;rw[HC4.out,if_neg h6]
       have h6':¬ (65536:Int)<T:=h6;exact Mq
 .have h64':(64:Int)<(n:Int):=oM;have HC2:Hid (Ar l=2):=by show _=_;rw[HC.out,if_pos oM]
  clear HC;go_enter func32,ntmps32;go_wp2;go_ret;exact⟨BS HC2.symm,Bv _⟩
theorem Fm:(prog.info? 63).map (fun i=>(i.zero,i.size,i.bytes))=some (some (.agg #[.string ⟨#[]⟩,.int .i64 0,.int .i64 0]),3,32):=kR




end Go.Proofs.Ytheanilpbnencaa
