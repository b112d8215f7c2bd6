import Derived.WalkKit
import Derived.WalkSpells
import Derived.Test.YtheanilpbnencaaGreatSpe1
namespace Go.Proofs.YtheanilpbnencaaGreat
open Go.RowKit Go.Proofs.Tryz
set_option linter.all false
set_option maxRecDepth 100000
set_option maxHeartbeats 16000000
theorem JS(a:Int)(k:Nat)(hk:k<32)(h0:0<=a)(h1:a<4294967296):bits .and .u32 a ((2^k-1:Nat):Int)=a%((2^k:Nat):Int):=by
 have hp:2^k<2^32:=Nat.pow_lt_pow_right oM hk;have hq:0<2^k:=Nat.two_pow_pos k;obtain⟨n,rfl⟩:=Int.eq_ofNat_of_zero_le h0;rw[u32_and _ _ h0 h1 oM oM,Int.toNat_natCast,Int.toNat_natCast,Nat.and_two_pow_sub_one_eq_mod];rfl
theorem Va(a:Int)(h0:0<=a)(h1:a<4294967296):bits .and .u32 a 8388607=a%8388608:=JS a 23 oM h0 h1
theorem Wm(a:Int)(h0:0<=a)(h1:a<4294967296):bits .and .u32 a 255=a%256:=JS a 8 oM h0 h1
theorem Q5(a:Int)(h0:0<=a)(h1:a<4294967296):bits .and .u32 a 2147483648=if 2147483648<=a then 2147483648 else 0:=by
 rw[u32_and a _ h0 h1 oM oM,show(2147483648:Int).toNat=2^31 from rfl,nat_bit];split<;>omega
theorem JT(a:Int)(h0:0<=a)(h1:a<4294967296):(bits .and .u32 a 2147483648 != 0)=decide (2147483648<=a):=by
 rw[Q5 a h0 h1];split<;>simp[*]
theorem OQ(a:Int)(h0:0<=a)(h1:a<4294967296):bits .andNot .u32 a 2147483648=a%2147483648:=by
 rw[u32_andNot a _ h0 h1 oM oM,show 4294967295-(2147483648:Int).toNat=2^31-1 from rfl,Nat.and_two_pow_sub_one_eq_mod];omega
def Lv(a:Int):Int:=
 if a/8388608%256=255 then(if a%8388608=0 then 4 else 5)else if a/8388608%256=0 then(if a%8388608=0 then 1 else 2)else 3
def nan(a:Int):Bool:=decide (2139095040<a%2147483648)
theorem Jq(a:Int):nan a=true↔2139095040<a%2147483648:=by unfold nan;simp
theorem TM(a:Int):nan a=false↔a%2147483648<=2139095040:=by unfold nan;simp
theorem T0(a:Int)(h:nan a=true)(h0:0<=a)(h1:a<4294967296):Lv a=5:=by
 rw[Jq]at h;unfold Lv;rw[if_pos oM,if_neg oM]
theorem T5(a:Int)(h:nan a=false)(h0:0<=a)(h1:a<4294967296):Lv a≠5:=by
 rw[TM]at h;unfold Lv;repeat' split
 all_goals omega
def BD(a:Int):Int:=if 2147483648<=a then -1-(a-2147483648)else a
theorem DD(a:Int)(h0:0<=a)(h1:a<4294967296):0<=(if nan a then 2143289344 else a)/\(if nan a then 2143289344 else a)<4294967296:=by split<;>omega
def Wv(k:Int):Int:=if k<0 then 2147483648+(-1-k)else k
def A9(a:Int):Int:=if nan a then 2143289344 else a
def next(a:Int):Int:=if nan a then 2143289344 else if a=2139095040 then a else Wv (BD a+1)
def mk(m:Bool)(e f:Int):Int:=if m then e*8388608+f+2147483648 else e*8388608+f
structure Ty where
 kind:Int
 par:Int
 deriving DecidableEq
structure Sl where
 ty:Ty
 keep:Bool
 bits:Int
 int_:Int
 deriving DecidableEq
structure Am where
 op:Int
 d:Int
 a:Int
 b:Int
 c:Int
 n:Int
 bits:Int
 deriving DecidableEq
structure Cd where
 sign:List Bd
 regs:List Ty
 slots:List Sl
 list:List Am
structure Rw where
 d:Int
 a:Int
 b:Int
 c:Int
 n:Int
 deriving DecidableEq
def A5(op:Int):Rw:=
 if op=1 then⟨1,0,0,0,7⟩
 else if op=2 then⟨2,0,0,0,8⟩
 else if op=3 then⟨6,5,0,0,0⟩
 else if 4<=op/\op<=10 then⟨4,5,5,0,0⟩
 else if 11<=op/\op<=14 then⟨4,5,0,0,0⟩
 else if op=15 then⟨4,5,5,5,0⟩
 else if op=16 then⟨1,1,2,0,0⟩
 else if op=17 then⟨1,2,0,0,0⟩
 else if op=18 then⟨2,1,0,0,0⟩
 else if 19<=op/\op<=20 then⟨1,3,0,0,0⟩
 else if op=21\/op=25 then⟨2,2,0,0,0⟩
 else if op=26 then⟨2,2,2,2,0⟩
 else if 22<=op/\op<=28 then⟨2,2,2,0,0⟩
 else if 29<=op/\op<=30 then⟨3,0,0,0,9⟩
 else if op=31 then⟨0,3,0,0,9⟩
 else if op=32 then⟨6,0,0,0,10⟩
 else if op=33 then⟨0,6,0,0,10⟩
 else if op=34 then⟨0,2,0,0,0⟩
 else if op=36 then⟨0,0,0,0,11⟩
 else⟨0,0,0,0,0⟩
def An(op:Int):Bool:=decide (1<=op)&&decide (op<=37)
def As(op:Int):Bool:=decide (3<=op)&&decide (op<=15)
def BR(op:Int):Bool:=(decide (29<=op)&&decide (op<=33))||As op
def Ab(n:Int)(k:Nat):Bool:=decide (0<=n)&&decide (n<(k:Int))
def Cs(n:Int):Bool:=decide (0<=n)&&decide (n<=2147483647)
def BN(a:Int):Bool:=decide ((if nan a then 2143289344 else a)=a)
def Ak(t:Ty)(n:Nat):Bool:=if t.kind=1\/t.kind=2 then t.par==0 else if t.kind=3 then Ab t.par n else false
def DO(s:Sl):Bool:=if s.ty.kind=2 then s.bits==0&&Cs s.int_ else s.int_==0&&BN s.bits
def AG(s:Sl)(n:Nat):Bool:=Ak s.ty n&&DO s
def A7(l:List Ty)(n:Int):Ty:=if Ab n l.length then(l[n.toNat]?).getD ⟨0,0⟩else⟨0,0⟩
def Eh(i:Am)(r:Rw):Int:=if r.d=0 then i.a else i.d
def Ap(l:List Ty)(i:Am)(r:Rw):Ty:=A7 l (Eh i r)
def AN(l:Int)(t m:Ty):Bool:=
 if l=1 then t.kind==1
 else if l=2 then t.kind==2
 else if l=3 then t.kind==3
 else if l=4 then t.kind==1||t.kind==3
 else if l=5 then decide (t=m)||(t.kind==1&&m.kind==3)
 else decide (t=m)
def A8(rs:List Ty)(l n:Int)(m:Ty):Bool:=if l=0 then n==0 else Ab n rs.length&&AN l (A7 rs n) m
def BU(ps:List Bd)(n:Int):Int:=((ps[n.toNat]?).map fun p=>p.kind).getD 0
def BZ(ss:List Sl)(n:Int):Ty:=((ss[n.toNat]?).map fun s=>s.ty).getD ⟨0,0⟩
def Fh(c:Cd)(n l:Int)(m:Ty):Bool:=
 if l=8 then Cs n
 else if l=9 then n==0||(n==1&&BU c.sign m.par==2)
 else if l=10 then Ab n c.slots.length&&decide (BZ c.slots n=m)
 else if l=11 then Ab n c.sign.length
 else n==0
def AV(c:Cd)(i:Am)(l:Int)(m:Ty):Bool:=if l=7 then i.n==0&&BN i.bits else i.bits==0&&Fh c i.n l m
def B0(c:Cd)(i:Am)(r:Rw):Bool:=
 A8 c.regs r.d i.d (Ap c.regs i r)&&(A8 c.regs r.a i.a (Ap c.regs i r)&&(A8 c.regs r.b i.b (Ap c.regs i r)&&(A8 c.regs r.c i.c (Ap c.regs i r)&&AV c i r.n (Ap c.regs i r))))
structure Bk where
 loop:Bool
 par:Int
 ahead:Nat
structure Wk where
 set:List Nat
 opens:List Bk
def Aq(s:Wk):Bool:=match s.opens with |b::_=>b.loop|[]=>false
def BT(s:Wk):Int:=match s.opens with |b::_=>b.par|[]=>0
def Au(c:Cd)(s:Wk)(i:Am)(r:Rw):Bool:=
 if i.op=34\/i.op=36 then !Aq s&&decide (s.opens.length<64)
 else if i.op=35 then !s.opens.isEmpty&& !Aq s
 else if i.op=37 then Aq s
 else !Aq s||(BR i.op&&decide (Ap c.regs i r=⟨3,BT s⟩))
def Ao(i:Am)(r:Rw):List Int:=(if r.a=0 then [] else [i.a])++((if r.b=0 then [] else [i.b])++(if r.c=0 then [] else [i.c]))
def AE(s:Wk):Wk:=match s.opens with
 |b::r=>⟨if b.loop then s.set else s.set.take b.ahead,r⟩
 |[]=>s
def Du(s:Wk)(i:Am):Wk:=
 if i.op=34\/i.op=36 then⟨s.set,⟨i.op==36,i.n,s.set.length⟩::s.opens⟩else if i.op=35\/i.op=37 then AE s else s
def F7(s:Wk)(i:Am)(r:Rw):Wk:=if r.d≠0/\i.d.toNat∉s.set then⟨s.set++[i.d.toNat],s.opens⟩else s
def EI(s:Wk)(i:Am)(r:Rw):Wk:=F7 (Du s i) i r
def EK(s:Wk)(i:Am)(r:Rw):Bool:=(Ao i r).all fun n=>decide (n.toNat∈s.set)
def AF(c:Cd)(s:Wk)(i:Am):Bool:=An i.op&&(B0 c i (A5 i.op)&&(Au c s i (A5 i.op)&&EK s i (A5 i.op)))
def Al(s:Wk)(i:Am):Wk:=EI s i (A5 i.op)
def In(c:Cd):Wk->Nat->List Am->Int×Int
 |s,k,[]=>if s.opens.isEmpty then(0,0)else(160,k)
 |s,k,i::r=>if AF c s i then In c (Al s i) (k+1) r else(160,k)
def Ad(c:Cd):Bool:=c.regs.all fun t=>Ak t c.sign.length
def AW(c:Cd):Bool:=c.slots.all fun s=>AG s c.sign.length
def BJ(c:Cd):Int:=
 if Ay c.sign≠0 then Ay c.sign
 else if 16384<c.regs.length\/32768<c.list.length then 181
 else if 4096<c.slots.length then 180
 else if Ad c&&AW c then 0 else 160
def Ag(c:Cd):Int×Int:=if BJ c≠0 then(BJ c,-1)else In c ⟨[],[]⟩ 0 c.list
def Vv:Nat->List Bk->Prop
 |_,[]=>True
 |n,b::r=>b.ahead<=n/\Vv b.ahead r
theorem Vv.mono:∀ {r:List Bk} {n m:Nat},Vv n r->n<=m->Vv m r
 |[],_,_,_,_=>trivial
 |b::r,n,m,h,k=>⟨gH h.1 k,h.2⟩
structure D4(n:Nat)(s:Wk):Prop where
 nodup:s.set.Nodup
 lt:∀x∈s.set,x<n
 opens:Vv s.set.length s.opens
 nest:s.opens.length<=64
theorem D4.start(n:Nat):D4 n ⟨[],[]⟩:=⟨List.nodup_nil,fun x h=>absurd h sM,trivial,gI _⟩
theorem D4.leave{n:Nat}{s:Wk}(h:D4 n s):D4 n (AE s):=by
 obtain⟨X,O⟩:=s;cases O with
 |nil=>exact h
 |cons b r=>
  obtain⟨h1,h2,⟨h3,h4⟩,h5⟩:=h;simp only[AE];simp only at h1 h2 h3 h4 h5;split
  .exact⟨h1,h2,h4.mono h3,by simp at h5 |-;omega⟩
  .refine⟨List.Sublist.nodup (List.take_sublist _ _) h1,fun x hx=>h2 x (List.mem_of_mem_take hx),?_,by simp at h5 |-;omega⟩;simp only[List.length_take];rw[Nat.min_eq_left h3];exact h4
theorem D4.turn{n:Nat}{s:Wk}{i:Am}(h:D4 n s)(hm:i.op=34\/i.op=36->s.opens.length<64):D4 n (Du s i):=by
 unfold Du;split
 .rename_i e;exact⟨h.nodup,h.lt,⟨gF _,h.opens⟩,by have:=hm e;simp;omega⟩
 .split
  .exact h.leave
  .exact h
theorem D4.add{n:Nat}{s:Wk}{i:Am}{r:Rw}(h:D4 n s)(hd:r.d≠0->i.d.toNat<n):D4 n (F7 s i r):=by
 unfold F7;split
 .rename_i e;refine⟨?_,fun x hx=>?_,h.opens.mono sM,h.nest⟩
  .rw[List.nodup_append];refine⟨h.nodup,sM,fun a ha b hb=>?_⟩;simp at hb;subst hb;exact fun e'=>e.2 (e'▸ha)
  .rcases List.mem_append.1 hx with hx|hx
   .exact h.lt x hx
   .simp at hx;subst hx;exact hd e.1
 .exact h
theorem QE:∀ {n:Nat} {l:List Nat},l.Nodup->(∀x∈l,x<n)->l.length<=n:=by
 intro n;induction n with
 |zero=>intro l _ h;cases l with
  |nil=>exact gF _
  |cons a t=>exact absurd (h a sM) (Nat.not_lt_zero _)
 |succ n ih=>
  intro l hd h;have h1:=ih (l:=l.erase n) (hd.erase n) fun x hx=>by
   have h2:=h x (List.mem_of_mem_erase hx);have h3:x≠n:=fun e=>by
    subst e;exact(List.Nodup.not_mem_erase hd) hx
   omega
  have h2:l.length<=(l.erase n).length+1:=by
   rw[List.length_erase];split<;>omega
  omega
theorem D4.len{n:Nat}{s:Wk}(h:D4 n s):s.set.length<=n:=QE h.nodup h.lt
theorem CD{n:Int}{k:Nat}:Ab n k=true↔0<=n/\n<(k:Int):=by unfold Ab;simp
theorem Ac{rs:List Ty}{l n:Int}{m:Ty}(h:A8 rs l n m=true)(hl:l≠0):0<=n/\n<(rs.length:Int):=by
 unfold A8 at h;rw[if_neg hl]at h;simp only[Bool.and_eq_true]at h;exact CD.1 h.1
theorem Dl{c:Cd}{i:Am}{r:Rw}(h:B0 c i r=true):A8 c.regs r.d i.d (Ap c.regs i r)=true:=by
 unfold B0 at h;simp only[Bool.and_eq_true]at h;exact h.1
theorem CQ{c:Cd}{i:Am}{r:Rw}(h:B0 c i r=true):A8 c.regs r.a i.a (Ap c.regs i r)=true:=by
 unfold B0 at h;simp only[Bool.and_eq_true]at h;exact h.2.1
theorem EU{c:Cd}{i:Am}{r:Rw}(h:B0 c i r=true):A8 c.regs r.b i.b (Ap c.regs i r)=true:=by
 unfold B0 at h;simp only[Bool.and_eq_true]at h;exact h.2.2.1
theorem EV{c:Cd}{i:Am}{r:Rw}(h:B0 c i r=true):A8 c.regs r.c i.c (Ap c.regs i r)=true:=by
 unfold B0 at h;simp only[Bool.and_eq_true]at h;exact h.2.2.2.1
theorem AX{c:Cd}{s:Wk}{i:Am}(h:AF c s i=true):An i.op=true/\B0 c i (A5 i.op)=true/\Au c s i (A5 i.op)=true/\EK s i (A5 i.op)=true:=by
 unfold AF at h;simp only[Bool.and_eq_true]at h;exact h
theorem Fv{c:Cd}{s:Wk}{i:Am}{r:Rw}(h:Au c s i r=true)(e:i.op=34\/i.op=36):s.opens.length<64:=by
 unfold Au at h;rw[if_pos e]at h;simp only[Bool.and_eq_true,decide_eq_true_eq]at h;exact h.2
theorem D4.step{c:Cd}{s:Wk}{i:Am}(h:D4 c.regs.length s)(t:AF c s i=true):D4 c.regs.length (Al s i):=by
 obtain⟨_,h2,h3,_⟩:=AX t;refine(h.turn (Fv h3)).add fun hd=>?_;have:=Ac (Dl h2) hd;omega
theorem OZ(a:Int)(h0:0<=a)(h1:a<4294967296)(w:World):
 Calls prog 125 #[.int .u32 a] w fun e w'=>e=.returned (.tuple #[.bool (decide (2147483648<=a)),.int .i64 (a/8388608%256),.int .i64 (a%8388608)])/\w'=w:=by
 have e1:=JT a h0 h1;have e2:=Wm (a/8388608) oM oM;have e3:=Va a h0 h1;go_enter func125,ntmps125;go_wp2
 go_ret3
 exact⟨rfl,rfl⟩
theorem Iy(a:Int)(h0:0<=a)(h1:a<4294967296)(w:World):
 Calls prog 123 #[.int .u32 a] w fun e w'=>e=.returned (.int .i64 (Lv a))/\w'=w:=by
 by_cases c1:a/8388608%256=255
 .by_cases c2:a%8388608=0
  .have hc:Lv a=4:=by unfold Lv;rw[if_pos c1,if_pos c2]
   exact Wh
  .have hc:Lv a=5:=by unfold Lv;rw[if_pos c1,if_neg c2]
   exact Wh
 .by_cases c2:a/8388608%256=0
  .by_cases c3:a%8388608=0
   .have hc:Lv a=1:=by unfold Lv;rw[if_neg c1,if_pos c2,if_pos c3]
    exact Wh
   .have hc:Lv a=2:=by unfold Lv;rw[if_neg c1,if_pos c2,if_neg c3]
    exact Wh
  .have hc:Lv a=3:=by unfold Lv;rw[if_neg c1,if_neg c2]
   exact Wh
theorem Ou(a:Int)(h0:0<=a)(h1:a<4294967296)(hn:nan a=true)(w:World):
 Calls prog 123 #[.int .u32 a] w fun e w'=>e=.returned (.int .i64 5)/\w'=w:=by
 have:=Iy a h0 h1 w;rwa[T0 a hn h0 h1]at this
theorem Oq(a:Int)(h0:0<=a)(h1:a<4294967296)(w:World):
 Calls prog 119 #[.int .u32 a] w fun e w'=>e=.returned (.int .u32 (A9 a))/\w'=w:=by
 cases hn:nan a
 .have hc:A9 a=a:=by unfold A9;simp[hn]
  have h5:(Lv a==5)=false:=by have:=T5 a hn h0 h1;simpa using this
  rw[hc];clear hc hn;go_enter func119,ntmps119;go_wp2_with(go_at_call 123;refine(Iy _ h0 h1 _).mono ?_;rintro e w' ⟨rfl,rfl⟩);go_ret;exact⟨rfl,rfl⟩
 .have hc:A9 a=2143289344:=by unfold A9;simp[hn]
  rw[hc];clear hc;go_enter func119,ntmps119;go_wp2_with(go_at_call 123;refine(Ou _ h0 h1 hn _).mono ?_;rintro e w' ⟨rfl,rfl⟩);go_ret;exact⟨rfl,rfl⟩
def PT(t:Ty):List Value:=[.int .i64 t.kind,.int .i64 t.par]
def Py(s:Sl):List Value:=[.int .i64 s.ty.kind,.int .i64 s.ty.par,.bool s.keep,.int .u32 s.bits,.int .i64 s.int_]
def EW(i:Am):List Value:=[.int .i64 i.op,.int .i64 i.d,.int .i64 i.a,.int .i64 i.b,.int .i64 i.c,.int .i64 i.n,.int .u32 i.bits]
theorem GY(t:Ty):(PT t).length=2:=rfl
theorem JE(t:Sl):(Py t).length=5:=rfl
theorem FD(t:Am):(EW t).length=7:=rfl
theorem FL(t:Bd):(Bh t).length=3:=rfl
def DB(t:Ty):Value:=.agg #[.int .i64 t.kind,.int .i64 t.par]
def CM(r:Rw):Value:=.agg #[.int .i64 r.d,.int .i64 r.a,.int .i64 r.b,.int .i64 r.c,.int .i64 r.n]
theorem kc{w w':World}(k:Below w.heap.size w w'){a:Addr}{v:Value}(h:w.cell? a=some v):w'.cell? a=some v:=(k.cell (A3 h)).trans h
theorem kf{w w':World}(k:Below w.heap.size w w'){a:Addr}{v:Value}(h:w.cell? a=some v)(f:w.frozen? a=false):w'.frozen? a=false:=(k.frozen (A3 h)).trans f
def Ai(w:World)(b o:Nat)(cs:List Value):Prop:=∀j (h:j<cs.length),w.cell? ⟨b,o+j,none⟩=some cs[j]
theorem Ai.below{w w':World}{b o:Nat}{cs:List Value}(h:Ai w b o cs)(k:Below w.heap.size w w'):Ai w' b o cs:=fun j hj=>(k.cell (A3 (h j hj))).trans (h j hj)
theorem Ai.at{w:World}{b o:Nat}{cs:List Value}(h:Ai w b o cs)(j:Nat){v:Value}(e:cs[j]? =some v):w.cell? ⟨b,o+j,none⟩=some v:=by
 obtain⟨hj,e⟩:=List.getElem?_eq_some_iff.1 e;rw[h j hj,e]
theorem Ai.of_block{w w':World}{b o:Nat}{cs:List Value}(h:Ai w b o cs)(e:w'.heap[b]? =w.heap[b]?):Ai w' b o cs:=fun j hj=>(gC e).trans (h j hj)
def Bj{α:Type}(k:Nat)(f:α->List Value)(w:World)(v:Value)(l:List α):Prop:=
 ∃p c,v=.slice p l.length c/\(l=[]\/∃b o,p=some ⟨b,o,none⟩/\∀i (h:i<l.length),Ai w b (o+i*k) (f l[i]))
theorem Bj.below{α:Type}{k:Nat}{f:α->List Value}{w w':World}{v:Value}{l:List α}(h:Bj k f w v l)(q:Below w.heap.size w w'):Bj k f w' v l:=by
 obtain⟨p,c,hv,h⟩:=h;exact⟨p,c,hv,h.imp id fun⟨b,o,hp,h⟩=>⟨b,o,hp,fun i hi=>(h i hi).below q⟩⟩
theorem Bj.at{α:Type}{k:Nat}{f:α->List Value}{w:World}{p:Option Addr}{n c:Nat}{l:List α}(h:Bj k f w (.slice p n c) l){i:Nat}(hi:i<l.length):∃b o,p=some ⟨b,o,none⟩/\Ai w b (o+i*k) (f l[i]):=by
 obtain⟨p',c',hv,h⟩:=h;simp only[Value.slice.injEq]at hv;obtain⟨rfl,rfl,rfl⟩:=hv;rcases h with h|⟨b,o,hp,h⟩
 .rw[h]at hi;exact absurd hi (Nat.not_lt_zero _)
 .exact⟨b,o,hp,h i hi⟩
theorem Bj.rd{w:World}{v:Value}{l:List Bd}(h:Bj 3 Bh w v l):Rd w v l:=by
 obtain⟨p,c,hv,h⟩:=h;exact⟨p,c,hv,h.imp id fun⟨b,o,hp,h⟩=>⟨b,o,hp,fun i hi=>⟨(h i hi).at 0 rfl,(h i hi).at 1 rfl,(h i hi).at 2 rfl⟩⟩⟩
structure Cy(w:World)(v0 v1 v2 v3:Value)(c:Cd):Prop where
 sign:Bj 3 Bh w v0 c.sign
 regs:Bj 2 PT w v1 c.regs
 slots:Bj 5 Py w v2 c.slots
 list:Bj 7 EW w v3 c.list
theorem Cy.below{w w':World}{v0 v1 v2 v3:Value}{c:Cd}(h:Cy w v0 v1 v2 v3 c)(k:Below w.heap.size w w'):Cy w' v0 v1 v2 v3 c:=⟨h.sign.below k,h.regs.below k,h.slots.below k,h.list.below k⟩
def B7(w:World)(C:Nat)(v0 v1 v2 v3:Value)(c:Cd):Prop:=Ai w C 0 [v0,v1,v2,v3]/\Cy w v0 v1 v2 v3 c
theorem B7.below{w w':World}{C:Nat}{v0 v1 v2 v3:Value}{c:Cd}(h:B7 w C v0 v1 v2 v3 c)(k:Below w.heap.size w w'):B7 w' C v0 v1 v2 v3 c:=⟨h.1.below k,h.2.below k⟩
structure AZ(c:Cd):Prop where
 signL:c.sign.length<=140737488351232
 names:∀p∈c.sign,p.name.size<=140737488351232
 regsL:c.regs.length<=140737488351232
 slotsL:c.slots.length<=140737488351232
 listL:c.list.length<=140737488351232
 sbits:∀s∈c.slots,0<=s.bits/\s.bits<4294967296
 ibits:∀i∈c.list,0<=i.bits/\i.bits<4294967296
theorem CE(n:Int)(k:Nat)(w:World):Calls prog 102 #[.int .i64 n,.int .i64 k] w fun e w'=>e=.returned (.bool (Ab n k))/\w'=w:=by
 unfold Ab;by_cases h:0<=n
 all_goals
  go_enter func102,ntmps102;exact Xc
theorem Gx(n:Int)(w:World):Calls prog 103 #[.int .i64 n] w fun e w'=>e=.returned (.bool (Cs n))/\w'=w:=by
 unfold Cs;by_cases h:0<=n
 all_goals
  go_enter func103,ntmps103;exact Xc
theorem Hn(a:Int)(h0:0<=a)(h1:a<4294967296)(w:World):Calls prog 104 #[.int .u32 a] w fun e w'=>e=.returned (.bool (BN a))/\w'=w:=by
 have hc:BN a=(A9 a==a):=by unfold BN A9;cases nan a<;>rw[Bool.eq_iff_iff]<;>simp
 rw[hc];have HK:Hid (∀w,Calls prog 119 #[.int .u32 a] w fun e w'=>e=.returned (.int .u32 (A9 a))/\w'=w):=Oq a h0 h1;clear hc;obtain⟨x,hx⟩:=gA (A9 a)
 rw[hx]at HK |-;clear hx;go_enter func104,ntmps104;go_wp2_with(go_at_call 119;refine(HK.out _).mono ?_;rintro e w1 ⟨rfl,rfl⟩);go_ret;exact⟨rfl,rfl⟩
theorem Fk(t:Ty)(p:Option Addr)(n c:Nat)(hn:n<=140737488351232)(w:World):Calls prog 76 #[DB t,.slice p n c] w fun e w'=>e=.returned (.bool (Ak t n))/\Below w.heap.size w w':=by
 obtain⟨K,P⟩:=t;have HK:Hid (∀w,Calls prog 102 #[.int .i64 P,.int .i64 n] w fun e w'=>e=.returned (.bool (Ab P n))/\w'=w):=CE P n;unfold Ak DB;simp only;by_cases h1:K=1
 .subst h1;rw[if_pos (Or.inl rfl)];exact XJ
 .by_cases h2:K=2
  .subst h2;rw[if_pos (Or.inr rfl)];exact XJ
  .rw[if_neg (fun e=>e.elim h1 h2)];have h1':(K==1)=false:=by simpa using h1
   have h2':(K==2)=false:=by simpa using h2
   by_cases h3:K=3
   .subst h3;rw[if_pos rfl];go_enter func76,ntmps76;exact Z9
   .rw[if_neg h3];have h3':(K==3)=false:=by simpa using h3
    clear h1 h2 h3;exact XJ
def VK(s:Sl):Value:=.agg #[.int .i64 s.ty.kind,.int .i64 s.ty.par,.bool s.keep,.int .u32 s.bits,.int .i64 s.int_]
theorem LL(s:Sl)(h0:0<=s.bits)(h1:s.bits<4294967296)(w:World):Calls prog 77 #[VK s] w fun e w'=>e=.returned (.bool (DO s))/\Below w.heap.size w w':=by
 have HK:Hid (∀w,Calls prog 104 #[.int .u32 s.bits] w fun e w'=>e=.returned (.bool (BN s.bits))/\w'=w):=Hn s.bits h0 h1;have HL:Hid (∀w,Calls prog 103 #[.int .i64 s.int_] w fun e w'=>e=.returned (.bool (Cs s.int_))/\w'=w):=Gx s.int_;obtain⟨⟨K,P⟩,Q,B,I⟩:=s;unfold DO VK;simp only at HK HL h0 h1 |-;obtain⟨X,hX⟩:=gA (BN B)
 obtain⟨Y,hY⟩:=gA (Cs I)
 rw[hX]at HK |-;rw[hY]at HL |-;clear hX hY;by_cases h2:K=2
 .subst h2;rw[if_pos rfl];cases hb:(B==0)
  all_goals
   go_enter func77,ntmps77;go_wp2_with(go_at_call 103;refine(HL.out _).mono ?_;rintro e w1 ⟨rfl,rfl⟩);go_ret;exact⟨A6 (by simp[hb]),A0 _ _⟩
 .rw[if_neg h2];have h2':(K==2)=false:=by simpa using h2
  clear h2;cases hb:(I==0)
  all_goals
   go_enter func77,ntmps77;go_wp2_with(go_at_call 104;refine(HK.out _).mono ?_;rintro e w1 ⟨rfl,rfl⟩);go_ret;exact⟨A6 (by simp[hb]),A0 _ _⟩
theorem Sp(K P L Q:Int):decide ((⟨K,P⟩:Ty)=⟨L,Q⟩)=(K==L&&P==Q):=by
 rw[Bool.eq_iff_iff];simp
theorem OU(l:Int)(t m:Ty)(w:World):Calls prog 105 #[.int .i64 l,DB t,DB m] w fun e w'=>e=.returned (.bool (AN l t m))/\Below w.heap.size w w':=by
 obtain⟨K,P⟩:=t;obtain⟨L,Q⟩:=m;unfold AN DB;simp only[Sp];by_cases h1:l=1
 .subst h1;rw[if_pos rfl];go_enter func105,ntmps105;go_wp2;go_ret;exact PP
 rw[if_neg h1];by_cases h2:l=2
 .subst h2;rw[if_pos rfl];clear h1;go_enter func105,ntmps105;go_wp2;go_ret;exact PP
 rw[if_neg h2];by_cases h3:l=3
 .subst h3;rw[if_pos rfl];clear h1 h2;go_enter func105,ntmps105;go_wp2;go_ret;exact PP
 rw[if_neg h3];by_cases h4:l=4
 .subst h4;rw[if_pos rfl];clear h1 h2 h3;cases hk:(K==1)
  all_goals
   go_enter func105,ntmps105;go_wp2;go_ret;exact⟨A6 (by simp[hk]),bel (A0 _ _) (A0 _ _)⟩
 rw[if_neg h4];by_cases h5:l=5
 .subst h5;rw[if_pos rfl];clear h1 h2 h3 h4;cases hk:(K==1)<;>cases hl:(K==L)<;>cases hq:(P==Q)
  all_goals
   go_enter func105,ntmps105;go_wp2;go_ret;exact⟨A6 (by simp[hk,hl,hq]),bel (A0 _ _) (A0 _ _)⟩
 rw[if_neg h5];have h1':(l==1)=false:=by simpa using h1
 have h2':(l==2)=false:=by simpa using h2
 have h3':(l==3)=false:=by simpa using h3
 have h4':(l==4)=false:=by simpa using h4
 have h5':(l==5)=false:=by simpa using h5
 clear h1 h2 h3 h4 h5;go_enter func105,ntmps105;go_wp2
 all_goals
  go_ret;exact⟨A6 (by simp[*]),bel (A0 _ _) (A0 _ _)⟩
theorem E3{l:List Ty}{n:Int}{k:Nat}(h:n=(k:Int))(hk:k<l.length):A7 l n=l[k]:=by
 subst h;unfold A7;rw[if_pos (CD.2 ⟨oM,oM⟩),Int.toNat_natCast,gB hk];rfl
theorem Cp{n:Int}{k:Nat}(h:Ab n k=true):∃m:Nat,n=(m:Int)/\m<k:=by
 obtain⟨h0,h1⟩:=CD.1 h;exact⟨n.toNat,oM,oM⟩
theorem BG(C:Nat)(v0 v1 v2 v3:Value)(c:Cd)(hk:AZ c)(l n:Int)(m:Ty)(w:World)(hc:B7 w C v0 v1 v2 v3 c):
 Calls prog 80 #[.pointer (some ⟨C,0,none⟩),.int .i64 l,.int .i64 n,DB m] w fun e w'=>e=.returned (.bool (A8 c.regs l n m))/\Below w.heap.size w w':=by
 unfold A8;by_cases h0:l=0
 .subst h0;rw[if_pos rfl];unfold DB;go_enter func80,ntmps80;go_wp2;go_ret;exact⟨rfl,A0 _ _⟩
 rw[if_neg h0];have h0':(l==0)=false:=by simpa using h0
 clear h0;have HB:=hk.regsL;have K1:=CE n c.regs.length;obtain⟨hcc,hcv⟩:=hc;have c1:=hcc.at 1 rfl;rw[Nat.zero_add]at c1;have hr:=hcv.regs;obtain⟨p,q,rfl,hrr⟩:=hcv.regs;have HN:Hid (c.regs.length=c.regs.length):=rfl;obtain⟨X,hX⟩:=gA (Ab n c.regs.length)
 simp only[hX]at K1;rw[hX];have hC:=A3 c1;simp only at hC;cases X
 .clear hr hrr hcc hcv;obtain⟨N,hN⟩:=gA (c.regs.length)
  rw[hN]at K1 c1 HB;have HK:Hid (∀w,Calls prog 102 #[.int .i64 n,.int .i64 N] w fun e w'=>e=.returned (.bool false)/\w'=w):=K1;clear hN K1 hX HN;obtain⟨A,B⟩:=m;unfold DB;go_enter func80,ntmps80;go_wp2;have hC':C≠w.heap.size:=oM;refine rG (fun v=>v.cell? ⟨C,1,none⟩=some (.slice p N q)) fun hJ=>?_;exact Yw
 .obtain⟨k,hnk,hkl⟩:=Cp hX;rw[E3 hnk hkl];have hti:c.regs[k]=c.regs[k]:=rfl;obtain⟨b,o,hp,hx⟩:=hr.at hkl;subst hp;subst hnk;have x0:=hx.at 0 rfl;have x1:=hx.at 1 rfl;rw[Nat.add_zero]at x0;have hbl:=A3 x0;simp only at hbl;have K2:=OU l c.regs[k] m;obtain⟨T,hT⟩:=gA (c.regs[k])
  rw[hT]at x0 x1 K2 |-;obtain⟨N,hN⟩:=gA (c.regs.length)
  rw[hN]at K1 c1 HB hkl;have HK:Hid (∀w,Calls prog 102 #[.int .i64 (k:Int),.int .i64 N] w fun e w'=>e=.returned (.bool true)/\w'=w):=K1;clear hN K1 hX HN hr hrr hcc hcv hx hti hT;obtain⟨A,B⟩:=m;obtain⟨D,E⟩:=T;unfold DB at K2 |-;simp only at x0 x1 K2 |-;obtain⟨Y,hY⟩:=gA (AN l ⟨D,E⟩ ⟨A,B⟩)
  rw[hY]at K2 |-;have HM:Hid (∀w,Calls prog 105 #[.int .i64 l,.agg #[.int .i64 D,.int .i64 E],.agg #[.int .i64 A,.int .i64 B]] w fun e w'=>e=.returned (.bool Y)/\Below w.heap.size w w'):=K2;clear K2 hY;have i1:(0:Int)<=(k:Int):=oM;have i2:(k:Int)<(N:Int):=oM;have hC':C≠w.heap.size:=oM;have hb':b≠w.heap.size:=oM;have HC:Hid (∀v,Below (w.alloc (.cells #[.int .i64 A,.int .i64 B] 63)).heap.size (w.alloc (.cells #[.int .i64 A,.int .i64 B] 63)) v->v.cell? ⟨C,1,none⟩=some (.slice (some ⟨b,o,none⟩) N q)/\v.cell? ⟨b,o+k*2,none⟩=some (.int .i64 D)/\v.cell? ⟨b,o+k*2+1,none⟩=some (.int .i64 E)/\v.cell? ⟨w.heap.size,0,none⟩=some (.int .i64 A)/\v.cell? ⟨w.heap.size,1,none⟩=some (.int .i64 B)):=
   fun v hv=>⟨kc hv (kc (A0 _ _) c1),kc hv (kc (A0 _ _) x0),kc hv (kc (A0 _ _) x1),kc hv sG,kc hv sG⟩
  go_enter func80,ntmps80;go_wp2;refine rG (fun v=>v.cell? ⟨C,1,none⟩=some (.slice (some ⟨b,o,none⟩) N q)/\v.cell? ⟨b,o+k*2,none⟩=some (.int .i64 D)/\v.cell? ⟨b,o+k*2+1,none⟩=some (.int .i64 E)/\v.cell? ⟨w.heap.size,0,none⟩=some (.int .i64 A)/\v.cell? ⟨w.heap.size,1,none⟩=some (.int .i64 B)) fun hJ=>?_;refine Tf 0 1 2 3 4 5 ?_;clear hJ;refine AC 6 fun K hK=>?_;go_simp;(go_at_call 102;refine(HK.out _).mono ?_;rintro e w1 ⟨rfl,rfl⟩);try(go_wp2_with fail)
  refine AB hK fun hJ=>?_;clear hK K;refine Tf 7 8 9 10 11 12 ?_;refine Tc 13 14 15 ?_;refine Bm 16 ?_;clear hJ;refine AC 17 fun K hK=>?_;go_simp;(go_at_call 105;refine(HM.out _).mono ?_;rintro e w1 ⟨rfl,hb1⟩;have HB1:=bel (A4 _) hb1;obtain⟨y0,y1,y2,y3,y4⟩:=HC.out w1 HB1);try(go_wp2_with fail)
  refine AB hK fun hJ=>?_;clear hK K;refine Tb 18 19 ?_;refine wpAnyH_done kR ?_ _;go_wp2;go_ret;exact⟨sM,bel (A0 _ _) HB1⟩
theorem Iq(C:Nat)(p:Option Addr)(N q:Nat)(l:List Ty)(b o:Nat)(i:Am)(r:Rw)(w:World)(hN:l.length=N)(c1:w.cell? ⟨C,1,none⟩=some (.slice p N q))(hr:Bj 2 PT w (.slice p N q) l)(hB:N<=140737488351232)(hi:Ai w b o (EW i)):
 Calls prog 78 #[.pointer (some ⟨C,0,none⟩),.pointer (some ⟨b,o,none⟩),CM r] w fun e w'=>e=.returned (DB (Ap l i r))/\Below w.heap.size w w':=by
 unfold Ap Eh;have e1:=hi.at 1 rfl;have e2:=hi.at 2 rfl;have hC:=A3 c1;have hb:=A3 e1;simp only at hC hb;have n1:C≠w.heap.size:=oM;have n2:C≠w.heap.size+1:=oM;have n3:b≠w.heap.size:=oM;have n4:b≠w.heap.size+1:=oM;clear hi hC hb;obtain⟨D,A,B,X,Y⟩:=r;unfold CM;simp only;have HA:Hid (∀a v,w.cell? a=some v->((w.alloc (.cells #[.int .i64 D,.int .i64 A,.int .i64 B,.int .i64 X,.int .i64 Y] 111)).alloc (.cells #[.int .i64 0,.int .i64 0] 63)).cell? a=some v):=fun a v h=>kc (A0 _ _) (kc (A0 _ _) h);obtain⟨x,hx⟩:=gA ((if D=0 then i.a else i.d))
 rw[hx];have K1:=CE x N;have HX:Hid ((D=0/\x=i.a)\/(D≠0/\x=i.d)):=by
  show _\/_;by_cases h:D=0
  .rw[if_pos h]at hx;exact .inl ⟨h,hx.symm⟩
  .rw[if_neg h]at hx;exact .inr ⟨h,hx.symm⟩
 clear hx;obtain⟨P,hP⟩:=gA (Ab x N)
 simp only[hP]at K1;have HK:Hid (∀w,Calls prog 102 #[.int .i64 x,.int .i64 N] w fun e w'=>e=.returned (.bool P)/\w'=w):=K1;clear K1;cases P
 .have HT:Hid (A7 l x=⟨0,0⟩):=by show _=_;unfold A7;rw[hN,hP];rfl
  clear hP hr;rcases HX.out with⟨rfl,rfl⟩|⟨hD,rfl⟩
  .clear HX;have f1:=HA.out _ _ e1;have f2:=HA.out _ _ e2;have f3:=HA.out _ _ c1;exact X5
  .clear HX;have hD':(D==0)=false:=by simpa using hD
   clear hD;have f1:=HA.out _ _ e1;have f2:=HA.out _ _ e2;have f3:=HA.out _ _ c1;exact X5
 .obtain⟨k,hxk,hk⟩:=Cp hP;have hkl:k<l.length:=oM;have HT:Hid (A7 l x=l[k]):=E3 hxk hkl;obtain⟨g,u,hp,hx⟩:=hr.at hkl;subst hp;have x0:=hx.at 0 rfl;have x1:=hx.at 1 rfl;rw[Nat.add_zero]at x0;obtain⟨T,hT⟩:=gA (l[k])
  rw[hT]at x0 x1 HT;obtain⟨E,G⟩:=T;simp only at x0 x1;have hg:=A3 x0;simp only at hg;have n5:g≠w.heap.size:=oM;have n6:g≠w.heap.size+1:=oM;have i1:(0:Int)<=(k:Int):=oM;have i2:(k:Int)<(N:Int):=oM;clear hP hr hx hT hg hN hkl;rcases HX.out with⟨rfl,hv⟩|⟨hD,hv⟩
  .clear HX;rw[<-hv,hxk]at e2;rw[hxk]at HK HT |-;clear hv hxk;have f1:=HA.out _ _ e1;have f2:=HA.out _ _ e2;have f3:=HA.out _ _ c1;have f4:=HA.out _ _ x0;have f5:=HA.out _ _ x1;exact X5
  .clear HX;have hD':(D==0)=false:=by simpa using hD
   rw[<-hv,hxk]at e1;rw[hxk]at HK HT |-;clear hD hv hxk;have f1:=HA.out _ _ e1;have f2:=HA.out _ _ e2;have f3:=HA.out _ _ c1;have f4:=HA.out _ _ x0;have f5:=HA.out _ _ x1;exact X5
theorem FE(C:Nat)(v0 v1 v2 v3:Value)(c:Cd)(hk:AZ c)(b o:Nat)(i:Am)(r:Rw)(w:World)(hc:B7 w C v0 v1 v2 v3 c)(hi:Ai w b o (EW i)):
 Calls prog 78 #[.pointer (some ⟨C,0,none⟩),.pointer (some ⟨b,o,none⟩),CM r] w fun e w'=>e=.returned (DB (Ap c.regs i r))/\Below w.heap.size w w':=by
 obtain⟨hcc,hcv⟩:=hc;have c1:=hcc.at 1 rfl;rw[Nat.zero_add]at c1;have hr:=hcv.regs;obtain⟨p,q,rfl,hrr⟩:=hcv.regs;exact Iq C p _ q c.regs b o i r w rfl c1 hr hk.regsL hi
theorem TC{l:List Bd}{n:Int}{k:Nat}(h:n=(k:Int))(hk:k<l.length):BU l n=l[k].kind:=by
 subst h;unfold BU;rw[Int.toNat_natCast,gB hk];rfl
theorem Se{l:List Sl}{n:Int}{k:Nat}(h:n=(k:Int))(hk:k<l.length):BZ l n=l[k].ty:=by
 subst h;unfold BZ;rw[Int.toNat_natCast,gB hk];rfl
theorem M7(C:Nat)(v0 v1 v2 v3:Value)(c:Cd)(hk:AZ c)(n:Int)(m:Ty)(w:World)(hc:B7 w C v0 v1 v2 v3 c)(hp:n=1->Ab m.par c.sign.length=true):
 Calls prog 106 #[.pointer (some ⟨C,0,none⟩),.int .i64 n,.int .i64 9,DB m] w fun e w'=>e=.returned (.bool (n==0||(n==1&&BU c.sign m.par==2)))/\Below w.heap.size w w':=by
 obtain⟨hcc,hcv⟩:=hc;have c1:=hcc.at 0 rfl;rw[Nat.zero_add]at c1;have hC:=A3 c1;simp only at hC;have n1:C≠w.heap.size:=oM;obtain⟨K,P⟩:=m;unfold DB;simp only at hp |-;have f1:(w.alloc (.cells #[.int .i64 K,.int .i64 P] 63)).cell? ⟨C,0,none⟩=some v0:=kc (A0 _ _) c1;by_cases h0:n=0
 .subst h0;clear hp hcv hcc;go_enter func106,ntmps106;go_wp2;refine rG (fun v=>v.cell? ⟨C,0,none⟩=some v0) fun hJ=>?_;refine Tc 0 1 2 ?_;refine Kd 3 4 5 6 ?_;refine Kd 7 8 9 10 ?_;refine Kd 11 12 13 14 ?_;refine Di 15 ?_;refine Di 16 ?_;refine Tb 17 18 ?_;refine wpAnyH_done kR ?_ _;go_wp2;go_ret;exact⟨rfl,bel (A0 _ _) (A4 _)⟩
 have h0':(n==0)=false:=by simpa using h0
 by_cases h1:n=1
 .subst h1;obtain⟨k,hxk,hk2⟩:=Cp (hp rfl);have hT:=TC hxk hk2;subst hxk;have hr:=hcv.sign;obtain⟨p,q,rfl,hrr⟩:=hcv.sign;obtain⟨b,o,rfl,hx⟩:=hr.at hk2;have x1:=hx.at 1 rfl;have hb:=A3 x1;simp only at hb;have n2:b≠w.heap.size:=oM;have HB:=hk.signL;obtain⟨T,hT'⟩:=gA (c.sign[k].kind)
  rw[hT']at x1 hT;rw[hT];obtain⟨N,hN⟩:=gA (c.sign.length)
  rw[hN]at c1 HB hk2 f1;have f2:(w.alloc (.cells #[.int .i64 K,.int .i64 (k:Int)] 63)).cell? ⟨b,o+k*3+1,none⟩=some (.int .i64 T):=kc (A0 _ _) x1;have i1:(0:Int)<=(k:Int):=oM;have i2:(k:Int)<(N:Int):=oM;clear hp hcv hcc hr hrr hx hT hT' hN h0 hk;go_enter func106,ntmps106;go_wp2;refine rG (fun v=>v.cell? ⟨C,0,none⟩=some (.slice (some ⟨b,o,none⟩) N q)/\v.cell? ⟨b,o+k*3+1,none⟩=some (.int .i64 T)/\v.cell? ⟨w.heap.size,1,none⟩=some (.int .i64 (k:Int))) fun hJ=>?_;refine Tf 0 1 2 3 4 5 ?_;refine Tf 6 7 8 9 10 11 ?_;refine Tf 12 13 14 15 16 17 ?_;refine Bm 18 ?_;refine wpAnyH_done kR ?_ _;go_wp2;go_ret;exact⟨A6 sM,bel (A0 _ _) (A4 _)⟩
 .have h1':(n==1)=false:=by simpa using h1
  clear hp hcv hcc h0 h1;go_enter func106,ntmps106;go_wp2;refine rG (fun v=>v.cell? ⟨C,0,none⟩=some v0) fun hJ=>?_;refine Tf 0 1 2 3 4 5 ?_;refine Kd 6 7 8 9 ?_;refine Kd 10 11 12 13 ?_;refine Di 14 ?_;refine Di 15 ?_;refine Tc 16 17 18 ?_;refine wpAnyH_done kR ?_ _;go_wp2;go_ret;exact⟨A6 (by simp[h0',h1']),bel (A0 _ _) (A4 _)⟩
theorem M8(C:Nat)(v0 v1 v2 v3:Value)(c:Cd)(hk:AZ c)(n:Int)(m:Ty)(w:World)(hc:B7 w C v0 v1 v2 v3 c):
 Calls prog 106 #[.pointer (some ⟨C,0,none⟩),.int .i64 n,.int .i64 10,DB m] w fun e w'=>e=.returned (.bool (Ab n c.slots.length&&decide (BZ c.slots n=m)))/\Below w.heap.size w w':=by
 obtain⟨hcc,hcv⟩:=hc;have c1:=hcc.at 2 rfl;rw[Nat.zero_add]at c1;have hC:=A3 c1;simp only at hC;have n1:C≠w.heap.size:=oM;have HB:=hk.slotsL;have K1:=CE n c.slots.length;have hr:=hcv.slots;obtain⟨p,q,rfl,hrr⟩:=hcv.slots;obtain⟨X,hX⟩:=gA (Ab n c.slots.length)
 simp only[hX]at K1;rw[hX];obtain⟨K,P⟩:=m;unfold DB;simp only;cases X
 .clear hr hrr hcc hcv;obtain⟨N,hN⟩:=gA (c.slots.length)
  rw[hN]at K1 c1 HB;have HK:Hid (∀w,Calls prog 102 #[.int .i64 n,.int .i64 N] w fun e w'=>e=.returned (.bool false)/\w'=w):=K1;clear hN K1 hX hk;have f1:(w.alloc (.cells #[.int .i64 K,.int .i64 P] 63)).cell? ⟨C,2,none⟩=some (.slice p N q):=kc (A0 _ _) c1;go_enter func106,ntmps106;go_wp2;refine rG (fun v=>v.cell? ⟨C,2,none⟩=some (.slice p N q)) fun hJ=>?_;exact Yw
 .obtain⟨k,hnk,hkl⟩:=Cp hX;rw[Se hnk hkl];obtain⟨b,o,hp,hx⟩:=hr.at hkl;subst hp;subst hnk;have x0:=hx.at 0 rfl;have x1:=hx.at 1 rfl;rw[Nat.add_zero]at x0;have hbl:=A3 x0;simp only at hbl;have n2:b≠w.heap.size:=oM;obtain⟨T,hT⟩:=gA (c.slots[k].ty)
  rw[hT]at x0 x1 |-;obtain⟨D,E⟩:=T;simp only at x0 x1;rw[Sp];obtain⟨N,hN⟩:=gA (c.slots.length)
  rw[hN]at K1 c1 HB hkl;have HK:Hid (∀w,Calls prog 102 #[.int .i64 (k:Int),.int .i64 N] w fun e w'=>e=.returned (.bool true)/\w'=w):=K1;have f1:(w.alloc (.cells #[.int .i64 K,.int .i64 P] 63)).cell? ⟨C,2,none⟩=some (.slice (some ⟨b,o,none⟩) N q):=kc (A0 _ _) c1;have f2:(w.alloc (.cells #[.int .i64 K,.int .i64 P] 63)).cell? ⟨b,o+k*5,none⟩=some (.int .i64 D):=kc (A0 _ _) x0;have f3:(w.alloc (.cells #[.int .i64 K,.int .i64 P] 63)).cell? ⟨b,o+k*5+1,none⟩=some (.int .i64 E):=kc (A0 _ _) x1;have i1:(0:Int)<=(k:Int):=oM;have i2:(k:Int)<(N:Int):=oM;clear hN K1 hX hr hrr hcc hcv hx hT hk;cases hl:(D==K)<;>cases hq:(E==P)
  all_goals
   go_enter func106,ntmps106;go_wp2;refine rG (fun v=>v.cell? ⟨C,2,none⟩=some (.slice (some ⟨b,o,none⟩) N q)/\v.cell? ⟨b,o+k*5,none⟩=some (.int .i64 D)/\v.cell? ⟨b,o+k*5+1,none⟩=some (.int .i64 E)/\v.cell? ⟨w.heap.size,0,none⟩=some (.int .i64 K)/\v.cell? ⟨w.heap.size,1,none⟩=some (.int .i64 P)) fun hJ=>?_;refine Tf 0 1 2 3 4 5 ?_;clear hJ;refine AC 6 fun K hK=>?_;go_simp;(go_at_call 102;refine(HK.out _).mono ?_;rintro e w1 ⟨rfl,rfl⟩);try(go_wp2_with fail)
   refine AB hK fun hJ=>?_;clear hK K;refine Tf 7 8 9 10 11 12 ?_;refine Tf 13 14 15 16 17 18 ?_;refine Bm 19 ?_;refine wpAnyH_done kR ?_ _;go_wp2;go_ret;exact⟨A6 (by simp[hl,hq]),bel (A0 _ _) (A4 _)⟩
theorem OE(C:Nat)(v0 v1 v2 v3:Value)(c:Cd)(hk:AZ c)(n l:Int)(m:Ty)(w:World)(hc:B7 w C v0 v1 v2 v3 c)(hp:l=9->Ab m.par c.sign.length=true):
 Calls prog 106 #[.pointer (some ⟨C,0,none⟩),.int .i64 n,.int .i64 l,DB m] w fun e w'=>e=.returned (.bool (Fh c n l m))/\Below w.heap.size w w':=by
 unfold Fh;by_cases h8:l=8
 .subst h8;rw[if_pos rfl];have HK:Hid (∀w,Calls prog 103 #[.int .i64 n] w fun e w'=>e=.returned (.bool (Cs n))/\w'=w):=Gx n;unfold DB;clear hp hc;go_enter func106,ntmps106;go_wp2_with(go_at_call 103;refine(HK.out _).mono ?_;rintro e w1 ⟨rfl,rfl⟩);go_ret;exact⟨rfl,A0 _ _⟩
 rw[if_neg h8];by_cases h9:l=9
 .subst h9;rw[if_pos rfl];exact M7 C v0 v1 v2 v3 c hk n m w hc fun _=>hp rfl
 rw[if_neg h9];by_cases h10:l=10
 .subst h10;rw[if_pos rfl];exact M8 C v0 v1 v2 v3 c hk n m w hc
 rw[if_neg h10];have h8':(l==8)=false:=by simpa using h8
 have h9':(l==9)=false:=by simpa using h9
 have h10':(l==10)=false:=by simpa using h10
 clear h8 h9 h10 hp;by_cases h11:l=11
 .subst h11;rw[if_pos rfl];have K1:=CE n c.sign.length;have HB:=hk.signL;obtain⟨hcc,hcv⟩:=hc;have c1:=hcc.at 0 rfl;rw[Nat.zero_add]at c1;have hC:=A3 c1;simp only at hC;have n1:C≠w.heap.size:=oM;obtain⟨p,q,rfl,hrr⟩:=hcv.sign;obtain⟨X,hX⟩:=gA (Ab n c.sign.length)
  simp only[hX]at K1;rw[hX];obtain⟨N,hN⟩:=gA (c.sign.length)
  rw[hN]at K1 c1 HB;have HK:Hid (∀w,Calls prog 102 #[.int .i64 n,.int .i64 N] w fun e w'=>e=.returned (.bool X)/\w'=w):=K1;clear hN K1 hX hrr hcc hcv hk h8' h9' h10';unfold DB;go_enter func106,ntmps106;exact Z9
 rw[if_neg h11];have h11':(l==11)=false:=by simpa using h11
 clear h11 hc;unfold DB;go_enter func106,ntmps106;go_wp2;go_ret;exact⟨rfl,A0 _ _⟩
theorem Jg(C:Nat)(v0 v1 v2 v3:Value)(c:Cd)(hk:AZ c)(b o:Nat)(i:Am)(l:Int)(m:Ty)(w:World)(hc:B7 w C v0 v1 v2 v3 c)(hi:Ai w b o (EW i))(h0:0<=i.bits)(h1:i.bits<4294967296)(hp:l=9->Ab m.par c.sign.length=true):
 Calls prog 81 #[.pointer (some ⟨C,0,none⟩),.pointer (some ⟨b,o,none⟩),.int .i64 l,DB m] w fun e w'=>e=.returned (.bool (AV c i l m))/\Below w.heap.size w w':=by
 have e5:=hi.at 5 rfl;have e6:=hi.at 6 rfl;have hb:=A3 e5;simp only at hb;have n1:b≠w.heap.size:=oM;have K1:=Hn i.bits h0 h1;have K2:=fun w h=>OE C v0 v1 v2 v3 c hk i.n l m w h hp;unfold AV;obtain⟨X,hX⟩:=gA (BN i.bits)
 obtain⟨Y,hY⟩:=gA (Fh c i.n l m)
 simp only[hX]at K1 |-;simp only[hY]at K2 |-;obtain⟨bt,hbt⟩:∃x,i.bits=x:=⟨_,rfl⟩
 obtain⟨n,hn⟩:∃x,i.n=x:=⟨_,rfl⟩
 rw[hbt]at e6 K1 |-;rw[hn]at e5 K2 |-;have HK:Hid (∀w,Calls prog 104 #[.int .u32 bt] w fun e w'=>e=.returned (.bool X)/\w'=w):=K1;obtain⟨K,P⟩:=m;unfold DB at K2 |-;simp only at K2 |-;have HN:Hid (∀w,B7 w C v0 v1 v2 v3 c->Calls prog 106 #[.pointer (some ⟨C,0,none⟩),.int .i64 n,.int .i64 l,.agg #[.int .i64 K,.int .i64 P]] w fun e w'=>e=.returned (.bool Y)/\Below w.heap.size w w'):=K2;have f5:(w.alloc (.cells #[.int .i64 K,.int .i64 P] 63)).cell? ⟨b,o+5,none⟩=some (.int .i64 n):=kc (A0 _ _) e5;have f6:(w.alloc (.cells #[.int .i64 K,.int .i64 P] 63)).cell? ⟨b,o+6,none⟩=some (.int .u32 bt):=kc (A0 _ _) e6;have HC0:Hid (B7 w C v0 v1 v2 v3 c):=hc;clear K1 K2 hX hY hbt hn hi hp h0 h1 hk hc;by_cases h7:l=7
 .subst h7;rw[if_pos rfl];clear HN;cases hz:(n==0)
  all_goals
   go_enter func81,ntmps81;go_wp2_with(go_at_call 104;refine(HK.out _).mono ?_;rintro e w1 ⟨rfl,rfl⟩);go_ret;exact⟨A6 (by simp[hz]),A0 _ _⟩
 rw[if_neg h7];have h7':(l==7)=false:=by simpa using h7
 clear h7 HK;cases hz:(bt==0)
 .go_enter func81,ntmps81;go_wp2;refine rG (fun v=>v.cell? ⟨b,o+5,none⟩=some (.int .i64 n)/\v.cell? ⟨b,o+6,none⟩=some (.int .u32 bt)) fun hJ=>?_;refine Tf 0 1 2 3 4 5 ?_;refine Kd 6 7 8 9 ?_;refine Kd 10 11 12 13 ?_;refine Tb 14 15 ?_;refine wpAnyH_done kR ?_ _;go_wp2;go_ret;exact⟨A6 (by simp[hz]),bel (A0 _ _) (A4 _)⟩
 .go_enter func81,ntmps81;go_wp2;have HC:Hid (∀v,Below (w.alloc (.cells #[.int .i64 K,.int .i64 P] 63)).heap.size (w.alloc (.cells #[.int .i64 K,.int .i64 P] 63)) v->v.cell? ⟨b,o+5,none⟩=some (.int .i64 n)/\v.cell? ⟨b,o+6,none⟩=some (.int .u32 bt)/\v.cell? ⟨w.heap.size,0,none⟩=some (.int .i64 K)/\v.cell? ⟨w.heap.size,1,none⟩=some (.int .i64 P)):=
   fun v hv=>⟨kc hv f5,kc hv f6,kc hv sG,kc hv sG⟩
  refine rG (fun v=>v.cell? ⟨b,o+5,none⟩=some (.int .i64 n)/\v.cell? ⟨b,o+6,none⟩=some (.int .u32 bt)/\v.cell? ⟨w.heap.size,0,none⟩=some (.int .i64 K)/\v.cell? ⟨w.heap.size,1,none⟩=some (.int .i64 P)) fun hJ=>?_;refine Tf 0 1 2 3 4 5 ?_;refine Tf 6 7 8 9 10 11 ?_;refine Bm 12 ?_;clear hJ;refine AC 13 fun K hK=>?_;go_simp;(go_at_call 106;refine(HN.out _ ((HC0.below (A0 _ _)).below (A4 _))).mono ?_;rintro e w1 ⟨rfl,hb1⟩;have HB1:=bel (A4 _) hb1;obtain⟨y0,y1,y2,y3⟩:=HC.out w1 HB1);try(go_wp2_with fail)
  refine AB hK fun hJ=>?_;clear hK K;refine Tb 14 15 ?_;refine wpAnyH_done kR ?_ _;go_wp2;go_ret;exact⟨A6 (by simp[hz]),bel (A0 _ _) HB1⟩
theorem Ei(b o:Nat)(i:Am)(w:World)(hi:Ai w b o (EW i)):
 Calls prog 79 #[.pointer (some ⟨b,o,none⟩)] w fun e w'=>e=.returned (.agg #[.int .i64 i.d,.int .i64 i.a,.int .i64 i.b,.int .i64 i.c])/\Below w.heap.size w w':=by
 have e1:=hi.at 1 rfl;have e2:=hi.at 2 rfl;have e3:=hi.at 3 rfl;have e4:=hi.at 4 rfl;have hb:=A3 e1;simp only at hb;have n1:b≠w.heap.size:=oM;have f1:(w.alloc (.cells #[.int .i64 0,.int .i64 0,.int .i64 0,.int .i64 0] 138)).cell? ⟨b,o+1,none⟩=some (.int .i64 i.d):=kc (A0 w _) e1;have f2:(w.alloc (.cells #[.int .i64 0,.int .i64 0,.int .i64 0,.int .i64 0] 138)).cell? ⟨b,o+2,none⟩=some (.int .i64 i.a):=kc (A0 w _) e2;have f3:(w.alloc (.cells #[.int .i64 0,.int .i64 0,.int .i64 0,.int .i64 0] 138)).cell? ⟨b,o+3,none⟩=some (.int .i64 i.b):=kc (A0 w _) e3;have f4:(w.alloc (.cells #[.int .i64 0,.int .i64 0,.int .i64 0,.int .i64 0] 138)).cell? ⟨b,o+4,none⟩=some (.int .i64 i.c):=kc (A0 w _) e4;clear hi;go_enter func79,ntmps79;go_wp2;refine rG (fun v=>v.cell? ⟨b,o+1,none⟩=some (.int .i64 i.d)/\v.cell? ⟨b,o+2,none⟩=some (.int .i64 i.a)/\v.cell? ⟨b,o+3,none⟩=some (.int .i64 i.b)/\v.cell? ⟨b,o+4,none⟩=some (.int .i64 i.c)) fun hJ=>?_;refine Tf 0 1 2 3 4 5 ?_;refine Tf 6 7 8 9 10 11 ?_;refine Tc 12 13 14 ?_;refine Tb 15 16 ?_;clear hJ;refine AC 17 fun K hK=>?_;go_simp;refine AB hK fun hJ=>?_;clear hK K;refine wpAnyH_done kR ?_ _;go_wp2;refine bodyPost_ret (by simp[results,results79,go_sem, *];try rfl) rfl ?_;exact⟨rfl,gG⟩
theorem Qy(D A B E:Int)(w:World):
 (Instr.index 138 (.agg #[.int .i64 D,.int .i64 A,.int .i64 B,.int .i64 E]) (.int .i64 0)).run prog w=.ok (.int .i64 D) w/\
 (Instr.index 138 (.agg #[.int .i64 D,.int .i64 A,.int .i64 B,.int .i64 E]) (.int .i64 1)).run prog w=.ok (.int .i64 A) w/\
 (Instr.index 138 (.agg #[.int .i64 D,.int .i64 A,.int .i64 B,.int .i64 E]) (.int .i64 2)).run prog w=.ok (.int .i64 B) w/\
 (Instr.index 138 (.agg #[.int .i64 D,.int .i64 A,.int .i64 B,.int .i64 E]) (.int .i64 3)).run prog w=.ok (.int .i64 E) w:=by
 refine⟨?_,?_,?_,?_⟩<;>simp[Instr.index,run_underlying underlying138,asIntOf,part,go_sem]
structure FW(w:World)(G:Nat)(L0 L1 L2 L3 L4 K P:Int)(v:World):Prop where
 bel:Below w.heap.size w v
 r0:v.cell? ⟨w.heap.size,0,none⟩=some (.int .i64 L0)
 r1:v.cell? ⟨w.heap.size,1,none⟩=some (.int .i64 L1)
 r2:v.cell? ⟨w.heap.size,2,none⟩=some (.int .i64 L2)
 r3:v.cell? ⟨w.heap.size,3,none⟩=some (.int .i64 L3)
 r4:v.cell? ⟨w.heap.size,4,none⟩=some (.int .i64 L4)
 m0:v.cell? ⟨G,0,none⟩=some (.int .i64 K)
 m1:v.cell? ⟨G,1,none⟩=some (.int .i64 P)
theorem FW.next{w:World}{G:Nat}{L0 L1 L2 L3 L4 K P:Int}{v v':World}(h:FW w G L0 L1 L2 L3 L4 K P v)(k:Below v.heap.size v v'):FW w G L0 L1 L2 L3 L4 K P v':=
 ⟨Go.Proofs.YtheanilpbnencaaGreat.bel h.bel k,kc k h.r0,kc k h.r1,kc k h.r2,kc k h.r3,kc k h.r4,kc k h.m0,kc k h.m1⟩
theorem Qm(C:Nat)(v0 v1 v2 v3:Value)(c:Cd)(hk:AZ c)(b o:Nat)(i:Am)(r:Rw)(w:World)(hc:B7 w C v0 v1 v2 v3 c)(hi:Ai w b o (EW i))(h0:0<=i.bits)(h1:i.bits<4294967296)
 (hp:A8 c.regs r.d i.d (Ap c.regs i r)=true->A8 c.regs r.a i.a (Ap c.regs i r)=true->r.n=9->Ab (Ap c.regs i r).par c.sign.length=true):
 Calls prog 49 #[.pointer (some ⟨C,0,none⟩),.pointer (some ⟨b,o,none⟩),CM r] w fun e w'=>e=.returned (.bool (B0 c i r))/\Below w.heap.size w w':=by
 have KM:=fun w h k=>FE C v0 v1 v2 v3 c hk b o i r w h k;have KR:=fun w k=>Ei b o i w k;have K0:=fun w h=>BG C v0 v1 v2 v3 c hk r.d i.d (Ap c.regs i r) w h;have K1:=fun w h=>BG C v0 v1 v2 v3 c hk r.a i.a (Ap c.regs i r) w h;have K2:=fun w h=>BG C v0 v1 v2 v3 c hk r.b i.b (Ap c.regs i r) w h;have K3:=fun w h=>BG C v0 v1 v2 v3 c hk r.c i.c (Ap c.regs i r) w h;have K4:=fun hq w h k=>Jg C v0 v1 v2 v3 c hk b o i r.n (Ap c.regs i r) w h k h0 h1 hq;have HC0:Hid (B7 w C v0 v1 v2 v3 c):=hc;have HI0:Hid (Ai w b o (EW i)):=hi;have hfc:B0 c i r=(A8 c.regs r.d i.d (Ap c.regs i r)&&(A8 c.regs r.a i.a (Ap c.regs i r)&&(A8 c.regs r.b i.b (Ap c.regs i r)&&(A8 c.regs r.c i.c (Ap c.regs i r)&&AV c i r.n (Ap c.regs i r))))):=rfl;rw[hfc];clear hfc hc hi hk h0 h1;obtain⟨M,hM⟩:=gA (Ap c.regs i r)
 simp only[hM]at KM K0 K1 K2 K3 K4 hp |-;obtain⟨X0,hX0⟩:∃X,A8 c.regs r.d i.d M=X:=⟨_,rfl⟩
 obtain⟨X1,hX1⟩:∃X,A8 c.regs r.a i.a M=X:=⟨_,rfl⟩
 obtain⟨X2,hX2⟩:∃X,A8 c.regs r.b i.b M=X:=⟨_,rfl⟩
 obtain⟨X3,hX3⟩:∃X,A8 c.regs r.c i.c M=X:=⟨_,rfl⟩
 obtain⟨Y,hY⟩:∃X,AV c i r.n M=X:=⟨_,rfl⟩
 simp only[hX0]at K0 hp |-;simp only[hX1]at K1 hp |-;simp only[hX2]at K2 |-;simp only[hX3]at K3 |-;simp only[hY]at K4 |-;obtain⟨L0,L1,L2,L3,L4⟩:=r;obtain⟨K,P⟩:=M;obtain⟨io,D,A,B,E,n,bt⟩:=i;unfold CM at KM |-;unfold DB at KM K0 K1 K2 K3 K4;simp only at KM KR K0 K1 K2 K3 K4 hp |-;have HKM:Hid (∀w,B7 w C v0 v1 v2 v3 c->Ai w b o (EW ⟨io,D,A,B,E,n,bt⟩)->Calls prog 78 #[.pointer (some ⟨C,0,none⟩),.pointer (some ⟨b,o,none⟩),.agg #[.int .i64 L0,.int .i64 L1,.int .i64 L2,.int .i64 L3,.int .i64 L4]] w fun e w'=>e=.returned (.agg #[.int .i64 K,.int .i64 P])/\Below w.heap.size w w'):=KM;have HKR:Hid (∀w,Ai w b o (EW ⟨io,D,A,B,E,n,bt⟩)->Calls prog 79 #[.pointer (some ⟨b,o,none⟩)] w fun e w'=>e=.returned (.agg #[.int .i64 D,.int .i64 A,.int .i64 B,.int .i64 E])/\Below w.heap.size w w'):=KR;have HK0:Hid (∀w,B7 w C v0 v1 v2 v3 c->Calls prog 80 #[.pointer (some ⟨C,0,none⟩),.int .i64 L0,.int .i64 D,.agg #[.int .i64 K,.int .i64 P]] w fun e w'=>e=.returned (.bool X0)/\Below w.heap.size w w'):=K0;have HK1:Hid (∀w,B7 w C v0 v1 v2 v3 c->Calls prog 80 #[.pointer (some ⟨C,0,none⟩),.int .i64 L1,.int .i64 A,.agg #[.int .i64 K,.int .i64 P]] w fun e w'=>e=.returned (.bool X1)/\Below w.heap.size w w'):=K1;have HK2:Hid (∀w,B7 w C v0 v1 v2 v3 c->Calls prog 80 #[.pointer (some ⟨C,0,none⟩),.int .i64 L2,.int .i64 B,.agg #[.int .i64 K,.int .i64 P]] w fun e w'=>e=.returned (.bool X2)/\Below w.heap.size w w'):=K2;have HK3:Hid (∀w,B7 w C v0 v1 v2 v3 c->Calls prog 80 #[.pointer (some ⟨C,0,none⟩),.int .i64 L3,.int .i64 E,.agg #[.int .i64 K,.int .i64 P]] w fun e w'=>e=.returned (.bool X3)/\Below w.heap.size w w'):=K3;have HK4:Hid ((L4=9->Ab P c.sign.length=true)->∀w,B7 w C v0 v1 v2 v3 c->Ai w b o (EW ⟨io,D,A,B,E,n,bt⟩)->Calls prog 81 #[.pointer (some ⟨C,0,none⟩),.pointer (some ⟨b,o,none⟩),.int .i64 L4,.agg #[.int .i64 K,.int .i64 P]] w fun e w'=>e=.returned (.bool Y)/\Below w.heap.size w w'):=K4;have HP:Hid (X0=true->X1=true->L4=9->Ab P c.sign.length=true):=hp;clear KM KR K0 K1 K2 K3 K4 hp hM hX0 hX1 hX2 hX3 hY;go_enter func49,ntmps49;go_wp2_with(first
  |(go_at_call 78;refine(HKM.out _ (HC0.below (A0 _ _)) (HI0.below (A0 _ _))).mono ?_;rintro e w1 ⟨rfl,hb1⟩;have HF1:Hid (FW w w1.heap.size L0 L1 L2 L3 L4 K P (w1.alloc (.cells #[.int .i64 K,.int .i64 P] 63))):=(by exact⟨bel (bel (A0 _ _) hb1) (A0 _ _),kc (A0 _ _) (kc hb1 sG),kc (A0 _ _) (kc hb1 sG),kc (A0 _ _) (kc hb1 sG),kc (A0 _ _) (kc hb1 sG),kc (A0 _ _) (kc hb1 sG),sG,sG⟩))
  |(go_at_call 79;refine(HKR.out _ (HI0.below HF1.bel)).mono ?_;rintro e w2 ⟨rfl,hb2⟩;have HF2:Hid (FW w w1.heap.size L0 L1 L2 L3 L4 K P w2):=HF1.next hb2))
 obtain⟨G,hG⟩:=gA (w1.heap.size)
 rw[hG]at HF2 |-
 go_loopw [16] (fun iv wr=>FW w G L0 L1 L2 L3 L4 K P wr/\∃j:Nat,j<=4/\iv=.int .i64 j/\Hid ((0<j->X0=true)/\(1<j->X1=true)/\(2<j->X2=true)/\(3<j->X3=true))) (fun iv _=>4-(intOf iv).toNat)
 case atStart=>exact⟨HF2.out,0,oM,rfl,⟨fun h=>absurd h oM,fun h=>absurd h oM,fun h=>absurd h oM,fun h=>absurd h oM⟩⟩
 case round=>
  clear HF1 HF2 HKM HKR hb1 hb2 hG;obtain⟨hF,j,hj,rfl,hp⟩:=hrel;have m0:=hF.m0;have m1:=hF.m1;have HF:Hid (FW w G L0 L1 L2 L3 L4 K P wr):=hF;have HC:Hid (∀v,Below wr.heap.size wr v->FW w G L0 L1 L2 L3 L4 K P v):=fun v hv=>HF.next hv;obtain rfl|rfl|rfl|rfl|rfl:j=0\/j=1\/j=2\/j=3\/j=4:=oM
  .have r0:=hF.r0;have ix:∀w,(Instr.index 138 (.agg #[.int .i64 D,.int .i64 A,.int .i64 B,.int .i64 E]) (.int .i64 0)).run prog w=.ok (.int .i64 D) w:=fun w=>(Qy D A B E w).1;clear hF;have HC1:Hid (∀v,Below wr.heap.size wr v->v.cell? ⟨w.heap.size,0,none⟩=some (.int .i64 L0)/\v.cell? ⟨G,0,none⟩=some (.int .i64 K)/\v.cell? ⟨G,1,none⟩=some (.int .i64 P)):=fun v hv=>⟨(HC.out v hv).r0,(HC.out v hv).m0,(HC.out v hv).m1⟩
   cases X0
   .go_wp2;refine rG (fun v=>v.cell? ⟨w.heap.size,0,none⟩=some (.int .i64 L0)/\v.cell? ⟨G,0,none⟩=some (.int .i64 K)/\v.cell? ⟨G,1,none⟩=some (.int .i64 P)) fun hJ=>?_;refine Tf 0 1 2 3 4 5 ?_;clear hJ;refine AC 6 fun K hK=>?_;go_simp;(go_at_call 80;refine(HK0.out _ ((HC0.below HF.bel).below (A4 _))).mono ?_;rintro e w3 ⟨rfl,hb3⟩;have HB3:=bel (A4 _) hb3;obtain⟨y0,y1,y2⟩:=HC1.out w3 HB3);exact X6
   .go_wp2;refine rG (fun v=>v.cell? ⟨w.heap.size,0,none⟩=some (.int .i64 L0)/\v.cell? ⟨G,0,none⟩=some (.int .i64 K)/\v.cell? ⟨G,1,none⟩=some (.int .i64 P)) fun hJ=>?_;refine Tf 0 1 2 3 4 5 ?_;clear hJ;refine AC 6 fun K hK=>?_;go_simp;(go_at_call 80;refine(HK0.out _ ((HC0.below HF.bel).below (A4 _))).mono ?_;rintro e w3 ⟨rfl,hb3⟩;have HB3:=bel (A4 _) hb3;obtain⟨y0,y1,y2⟩:=HC1.out w3 HB3);try(go_wp2_with fail)
    refine AB hK fun hJ=>?_;clear hK K;refine Bm 7 ?_;refine wpAnyH_done kR ?_ _;go_wp2;go_roundw
    case rel=>exact⟨HC.out w3 HB3,1,oM,by first|rfl|go_num,⟨fun _=>fT,fun h=>absurd h oM,fun h=>absurd h oM,fun h=>absurd h oM⟩⟩
    case measure=>simp[intOf]
  .have r0:=hF.r1;have ix:∀w,(Instr.index 138 (.agg #[.int .i64 D,.int .i64 A,.int .i64 B,.int .i64 E]) (.int .i64 1)).run prog w=.ok (.int .i64 A) w:=fun w=>(Qy D A B E w).2.1;clear hF;have HC1:Hid (∀v,Below wr.heap.size wr v->v.cell? ⟨w.heap.size,1,none⟩=some (.int .i64 L1)/\v.cell? ⟨G,0,none⟩=some (.int .i64 K)/\v.cell? ⟨G,1,none⟩=some (.int .i64 P)):=fun v hv=>⟨(HC.out v hv).r1,(HC.out v hv).m0,(HC.out v hv).m1⟩
   cases X1
   .go_wp2;refine rG (fun v=>v.cell? ⟨w.heap.size,1,none⟩=some (.int .i64 L1)/\v.cell? ⟨G,0,none⟩=some (.int .i64 K)/\v.cell? ⟨G,1,none⟩=some (.int .i64 P)) fun hJ=>?_;refine Tf 0 1 2 3 4 5 ?_;clear hJ;refine AC 6 fun K hK=>?_;go_simp;(go_at_call 80;refine(HK1.out _ ((HC0.below HF.bel).below (A4 _))).mono ?_;rintro e w3 ⟨rfl,hb3⟩;have HB3:=bel (A4 _) hb3;obtain⟨y0,y1,y2⟩:=HC1.out w3 HB3);exact X6
   .go_wp2;refine rG (fun v=>v.cell? ⟨w.heap.size,1,none⟩=some (.int .i64 L1)/\v.cell? ⟨G,0,none⟩=some (.int .i64 K)/\v.cell? ⟨G,1,none⟩=some (.int .i64 P)) fun hJ=>?_;refine Tf 0 1 2 3 4 5 ?_;clear hJ;refine AC 6 fun K hK=>?_;go_simp;(go_at_call 80;refine(HK1.out _ ((HC0.below HF.bel).below (A4 _))).mono ?_;rintro e w3 ⟨rfl,hb3⟩;have HB3:=bel (A4 _) hb3;obtain⟨y0,y1,y2⟩:=HC1.out w3 HB3);try(go_wp2_with fail)
    refine AB hK fun hJ=>?_;clear hK K;refine Bm 7 ?_;refine wpAnyH_done kR ?_ _;go_wp2;go_roundw
    case rel=>exact⟨HC.out w3 HB3,2,oM,by first|rfl|go_num,⟨fun _=>hp.1 oM,fun _=>fT,fun h=>absurd h oM,fun h=>absurd h oM⟩⟩
    case measure=>simp[intOf]
  .have r0:=hF.r2;have ix:∀w,(Instr.index 138 (.agg #[.int .i64 D,.int .i64 A,.int .i64 B,.int .i64 E]) (.int .i64 2)).run prog w=.ok (.int .i64 B) w:=fun w=>(Qy D A B E w).2.2.1;clear hF;have HC1:Hid (∀v,Below wr.heap.size wr v->v.cell? ⟨w.heap.size,2,none⟩=some (.int .i64 L2)/\v.cell? ⟨G,0,none⟩=some (.int .i64 K)/\v.cell? ⟨G,1,none⟩=some (.int .i64 P)):=fun v hv=>⟨(HC.out v hv).r2,(HC.out v hv).m0,(HC.out v hv).m1⟩
   cases X2
   .go_wp2;refine rG (fun v=>v.cell? ⟨w.heap.size,2,none⟩=some (.int .i64 L2)/\v.cell? ⟨G,0,none⟩=some (.int .i64 K)/\v.cell? ⟨G,1,none⟩=some (.int .i64 P)) fun hJ=>?_;refine Tf 0 1 2 3 4 5 ?_;clear hJ;refine AC 6 fun K hK=>?_;go_simp;(go_at_call 80;refine(HK2.out _ ((HC0.below HF.bel).below (A4 _))).mono ?_;rintro e w3 ⟨rfl,hb3⟩;have HB3:=bel (A4 _) hb3;obtain⟨y0,y1,y2⟩:=HC1.out w3 HB3);exact X6
   .go_wp2;refine rG (fun v=>v.cell? ⟨w.heap.size,2,none⟩=some (.int .i64 L2)/\v.cell? ⟨G,0,none⟩=some (.int .i64 K)/\v.cell? ⟨G,1,none⟩=some (.int .i64 P)) fun hJ=>?_;refine Tf 0 1 2 3 4 5 ?_;clear hJ;refine AC 6 fun K hK=>?_;go_simp;(go_at_call 80;refine(HK2.out _ ((HC0.below HF.bel).below (A4 _))).mono ?_;rintro e w3 ⟨rfl,hb3⟩;have HB3:=bel (A4 _) hb3;obtain⟨y0,y1,y2⟩:=HC1.out w3 HB3);try(go_wp2_with fail)
    refine AB hK fun hJ=>?_;clear hK K;refine Bm 7 ?_;refine wpAnyH_done kR ?_ _;go_wp2;go_roundw
    case rel=>exact⟨HC.out w3 HB3,3,oM,by first|rfl|go_num,⟨fun _=>hp.1 oM,fun _=>hp.2.1 oM,fun _=>fT,fun h=>absurd h oM⟩⟩
    case measure=>simp[intOf]
  .have r0:=hF.r3;have ix:∀w,(Instr.index 138 (.agg #[.int .i64 D,.int .i64 A,.int .i64 B,.int .i64 E]) (.int .i64 3)).run prog w=.ok (.int .i64 E) w:=fun w=>(Qy D A B E w).2.2.2;clear hF;have HC1:Hid (∀v,Below wr.heap.size wr v->v.cell? ⟨w.heap.size,3,none⟩=some (.int .i64 L3)/\v.cell? ⟨G,0,none⟩=some (.int .i64 K)/\v.cell? ⟨G,1,none⟩=some (.int .i64 P)):=fun v hv=>⟨(HC.out v hv).r3,(HC.out v hv).m0,(HC.out v hv).m1⟩
   cases X3
   .go_wp2;refine rG (fun v=>v.cell? ⟨w.heap.size,3,none⟩=some (.int .i64 L3)/\v.cell? ⟨G,0,none⟩=some (.int .i64 K)/\v.cell? ⟨G,1,none⟩=some (.int .i64 P)) fun hJ=>?_;refine Tf 0 1 2 3 4 5 ?_;clear hJ;refine AC 6 fun K hK=>?_;go_simp;(go_at_call 80;refine(HK3.out _ ((HC0.below HF.bel).below (A4 _))).mono ?_;rintro e w3 ⟨rfl,hb3⟩;have HB3:=bel (A4 _) hb3;obtain⟨y0,y1,y2⟩:=HC1.out w3 HB3);exact X6
   .go_wp2;refine rG (fun v=>v.cell? ⟨w.heap.size,3,none⟩=some (.int .i64 L3)/\v.cell? ⟨G,0,none⟩=some (.int .i64 K)/\v.cell? ⟨G,1,none⟩=some (.int .i64 P)) fun hJ=>?_;refine Tf 0 1 2 3 4 5 ?_;clear hJ;refine AC 6 fun K hK=>?_;go_simp;(go_at_call 80;refine(HK3.out _ ((HC0.below HF.bel).below (A4 _))).mono ?_;rintro e w3 ⟨rfl,hb3⟩;have HB3:=bel (A4 _) hb3;obtain⟨y0,y1,y2⟩:=HC1.out w3 HB3);try(go_wp2_with fail)
    refine AB hK fun hJ=>?_;clear hK K;refine Bm 7 ?_;refine wpAnyH_done kR ?_ _;go_wp2;go_roundw
    case rel=>exact⟨HC.out w3 HB3,4,oM,by first|rfl|go_num,⟨fun _=>hp.1 oM,fun _=>hp.2.1 oM,fun _=>hp.2.2.1 oM,fun _=>fT⟩⟩
    case measure=>simp[intOf]
  .have r4:=hF.r4;obtain⟨rfl,rfl,rfl,rfl⟩:X0=true/\X1=true/\X2=true/\X3=true:=⟨hp.1 oM,hp.2.1 oM,hp.2.2.1 oM,hp.2.2.2 oM⟩
   clear hF hp;go_wp2_with(go_at_call 81;refine(HK4.out (HP.out rfl rfl) _ (HC0.below HF.bel) (HI0.below HF.bel)).mono ?_;rintro e w3 ⟨rfl,hb3⟩);go_ret;exact⟨A6 sM,(HC.out w3 hb3).bel⟩
theorem EC:(prog.info? 3).map (fun i=>(i.zero,i.size,i.bytes))=some (some (.int .i64 0),1,8):=kR
def BK(l:List Int):List Value:=l.map fun x=>.int .i64 x
theorem BY(l:List Int)(x:Int):BK (l++[x])=BK l++[.int .i64 x]:=by simp[BK]
theorem EH{w:World}{B:Nat}{t:TypeId}{k:Nat}{v:Value}{n:Nat}{xs:List Value}(h:w.ownsRow B t k v n xs)(hn:0<n):
 ∃g cap,v=.slice (some ⟨g,0,none⟩) n cap/\B<=g/\g<w.heap.size/\n<=cap/\cap<=maxLen/\∀ (j:Nat) (u:Value),xs[j]? =some u->w.cell? ⟨g,j,none⟩=some u:=by
 obtain⟨hl,h⟩:=h;rcases h with⟨_,h0⟩|⟨g,cap,cur,hv,hB,hg,hc1,hc2,hsz,htk⟩
 .omega
 .refine⟨g,cap,hv,hB,?_,hc1,hc2,fun j u hu=>?_⟩
  .rcases Nat.lt_or_ge g w.heap.size with c|c
   .exact c
   .rw[Array.getElem?_eq_none c]at hg;cases hg
  .have hj:j<xs.length:=(List.getElem?_eq_some_iff.1 hu).1;rw[<-htk,List.getElem?_take_of_lt oM]at hu;simpa[World.cell?,hg]using hu
theorem At{w:World}{B:Nat}{t:TypeId}{k:Nat}{v:Value}{n:Nat}{xs:List Value}(h:w.ownsRow B t k v n xs):∃p cap,v=.slice p n cap:=by
 obtain⟨hl,h⟩:=h;rcases h with⟨rfl,rfl⟩|⟨g,cap,cur,hv,-⟩
 .exact⟨none,0,rfl⟩
 .exact⟨_,_,hv⟩
theorem Az{w w':World}{B:Nat}{t:TypeId}{k:Nat}{v:Value}{n:Nat}{xs:List Value}(h:w.ownsRow B t k v n xs)(hb:∀g,v.ownBlock=some g->w'.heap[g]? =w.heap[g]?):w'.ownsRow B t k v n xs:=by
 refine⟨h.1,?_⟩;rcases h.2 with h5|⟨g,cap,cur,hv,hB,hg,hr⟩
 .exact .inl h5
 .exact .inr ⟨g,cap,cur,hv,hB,(hb g (by rw[hv];rfl)).trans hg,hr⟩
theorem AA{w w':World}{B:Nat}{t:TypeId}{k:Nat}{v:Value}{n:Nat}{xs:List Value}(h:w.ownsRow B t k v n xs)(q:Below w.heap.size w w'):w'.ownsRow B t k v n xs:=Az h fun g hg=>q.block g (h.lt g hg).2
theorem Da{w:World}{B B':Nat}{t:TypeId}{k:Nat}{v:Value}{n:Nat}{xs:List Value}(h:w.ownsRow B t k v n xs)(hB:B'<=B):w.ownsRow B' t k v n xs:=
 ⟨h.1,h.2.imp id fun⟨g,cap,cur,h1,h2,h3⟩=>⟨g,cap,cur,h1,gH hB h2,h3⟩⟩
def DA(L x:Int):List Int:=if L=0 then [] else [x]
theorem FN(i:Am)(r:Rw):Ao i r=(DA r.a i.a++DA r.b i.b)++DA r.c i.c:=by unfold Ao DA;simp
theorem Gd(L x:Int):(DA L x).length<=1:=by unfold DA;split<;>simp
structure VX(w:World)(G C:Nat)(L1 L2 L3 A B E:Int)(v:World):Prop where
 bel:Below w.heap.size w v
 hC:w.heap.size<C
 hG:G<C
 le:C<=v.heap.size
 r1:v.cell? ⟨w.heap.size,1,none⟩=some (.int .i64 L1)
 r2:v.cell? ⟨w.heap.size,2,none⟩=some (.int .i64 L2)
 r3:v.cell? ⟨w.heap.size,3,none⟩=some (.int .i64 L3)
 g1:v.cell? ⟨G,1,none⟩=some (.int .i64 A)
 g2:v.cell? ⟨G,2,none⟩=some (.int .i64 B)
 g3:v.cell? ⟨G,3,none⟩=some (.int .i64 E)
theorem VX.next{w:World}{G C:Nat}{L1 L2 L3 A B E:Int}{v v':World}(h:VX w G C L1 L2 L3 A B E v)(k:Below C v v'):VX w G C L1 L2 L3 A B E v':=by
 have c1:∀ {a:Addr} {u:Value},a.block<C->v.cell? a=some u->v'.cell? a=some u:=fun ha hu=>(k.cell ha).trans hu;exact⟨h.bel.trans (k.mono (Nat.le_of_lt h.hC)),h.hC,h.hG,gH h.le k.size,c1 h.hC h.r1,c1 h.hC h.r2,c1 h.hC h.r3,c1 h.hG h.g1,c1 h.hG h.g2,c1 h.hG h.g3⟩
theorem My(b o:Nat)(i:Am)(r:Rw)(w:World)(hi:Ai w b o (EW i)):
 Calls prog 51 #[CM r,.pointer (some ⟨b,o,none⟩)] w fun e w'=>∃v,e=.returned v/\w'.ownsRow w.heap.size 3 1 v (Ao i r).length (BK (Ao i r))/\Below w.heap.size w w':=by
 rw[FN];have KR:=fun w k=>Ei b o i w k;have HI0:Hid (Ai w b o (EW i)):=hi;obtain⟨i0,hi0,hz0,hz1,hz3⟩:=info_parts EC;obtain⟨L0,L1,L2,L3,L4⟩:=r;obtain⟨io,D,A,B,E,n,bt⟩:=i;unfold CM;simp only at KR |-;have HKR:Hid (∀w,Ai w b o (EW ⟨io,D,A,B,E,n,bt⟩)->Calls prog 79 #[.pointer (some ⟨b,o,none⟩)] w fun e w'=>e=.returned (.agg #[.int .i64 D,.int .i64 A,.int .i64 B,.int .i64 E])/\Below w.heap.size w w'):=KR;clear KR hi;obtain⟨R,hR⟩:=gA ((DA L1 A++DA L2 B)++DA L3 E)
 rw[hR];have HR:Hid ((DA L1 A++DA L2 B)++DA L3 E=R):=hR;clear hR;go_enter func51,ntmps51;go_wp2_with(go_at_call 79;refine(HKR.out _ (HI0.below (A0 _ _))).mono ?_;rintro e w1 ⟨rfl,hb1⟩);have HF1:Hid (VX w w1.heap.size (w1.heap.size+1) L1 L2 L3 A B E (w1.alloc (.cells #[.int .i64 D,.int .i64 A,.int .i64 B,.int .i64 E] 138))):=by
  have hs:=hb1.size;simp at hs;exact⟨bel (bel (A0 _ _) hb1) (A0 _ _),oM,oM,sM,kc (A0 _ _) (kc hb1 sG),kc (A0 _ _) (kc hb1 sG),kc (A0 _ _) (kc hb1 sG),sG,sG,sG⟩
 obtain⟨G,hG⟩:=gA (w1.heap.size)
 obtain⟨W,hW⟩:=gA (w1.alloc (.cells #[.int .i64 D,.int .i64 A,.int .i64 B,.int .i64 E] 138))
 rw[hW]at HF1 |-;rw[hG]at HF1 |-;clear hG hW
 go_loopw [5,7] (fun lv iv wr=>VX w G (G+1) L1 L2 L3 A B E wr/\∃ (j:Nat) (l:List Int),1<=j/\j<=4/\iv=.int .i64 j/\l.length<=j-1/\Hid (wr.ownsRow (G+1) 3 1 lv l.length (BK l))/\Hid ((j=1->l=[])/\(j=2->l=DA L1 A)/\(j=3->l=DA L1 A++DA L2 B)/\(j=4->l=(DA L1 A++DA L2 B)++DA L3 E))) (fun _ iv _=>4-(intOf iv).toNat)
 case atStart=>exact⟨HF1.out,1,[],oM,oM,rfl,sM,World.ownsRow_nil _ _ _ 1,⟨fun _=>rfl,fun h=>absurd h oM,fun h=>absurd h oM,fun h=>absurd h oM⟩⟩
 case round=>
  clear HF1 HKR hb1;obtain⟨hF,j,l,hj1,hj,rfl,hll,HO,HL⟩:=hrel;have HF:Hid (VX w G (G+1) L1 L2 L3 A B E wr):=hF;have hGw:=hF.le;have hn1:G≠wr.heap.size:=oM;have hn2:w.heap.size≠wr.heap.size:=by have:=hF.hC;omega
  obtain rfl|rfl|rfl|rfl:j=1\/j=2\/j=3\/j=4:=oM
  .have r0:=hF.r1;have g0:=hF.g1;have f0:=kc (A0 wr (.cells #[.int .i64 A] 3)) g0;have hl0:=HL.1 rfl;clear hF;by_cases hz:L1=0
   .have hz':(L1 != 0)=false:=by simpa using hz
    have hz2:(L1==0)=true:=by simpa using hz
    have HZ:Hid (L1=0):=hz;clear hz;go_wp2;go_roundw
    case rel=>exact⟨HF.out,2,l,oM,oM,by first|rfl|go_num,oM,HO,⟨fun h=>absurd h oM,fun _=>by rw[hl0];unfold DA;simp[HZ.out],fun h=>absurd h oM,fun h=>absurd h oM⟩⟩
    case measure=>simp[intOf]
   .have hz':(L1 != 0)=true:=by simpa using hz
    have hz2:(L1==0)=false:=by simpa using hz
    have HZ:Hid (¬L1=0):=hz;clear hz;go_wp2_with(first
     |(at_builtin;refine wpList_append_own_at _ rfl _ _ 58 rfl (G+1) 3 i0 _ 1 8 underlying58 hi0 hz0 hz1 hz3 rfl dE _ l.length (BK l) rfl (World.ownsRow.alloc HO.out _) ⟨wr.heap.size,0,none⟩ 1 1 [.int .i64 A] rfl rfl (World.news_of_block (cs:=#[.int .i64 A]) (t:=3) (fr:=(0,0)) (heap_alloc_new wr _)) Sz mL oM sO ?_;intro v' w3 hown3 hgrow hnil hat;have HO3:Hid (w3.ownsRow (G+1) 3 1 v' (l.length+1) (BK l++[.int .i64 A])):=hown3;have HB3:Hid (Below (G+1) wr w3):=(Below.alloc (Below.refl _ _) hGw _).grown hgrow sO (fun q e=>(HO.lt q e).1);clear hown3 hgrow hnil hat))
    go_roundw
    case rel=>exact⟨HF.next HB3.out,2,l++[A],oM,oM,by first|rfl|go_num,sO,by show _;rw[List.length_append,BY];exact HO3.out,⟨fun h=>absurd h oM,fun _=>by rw[hl0,show DA L1 A=[A]from if_neg HZ.out];try rfl,fun h=>absurd h oM,fun h=>absurd h oM⟩⟩
    case measure=>simp[intOf]
  .have r0:=hF.r2;have g0:=hF.g2;have f0:=kc (A0 wr (.cells #[.int .i64 B] 3)) g0;have hl0:=HL.2.1 rfl;clear hF;by_cases hz:L2=0
   .have hz':(L2 != 0)=false:=by simpa using hz
    have hz2:(L2==0)=true:=by simpa using hz
    have HZ:Hid (L2=0):=hz;clear hz;go_wp2;go_roundw
    case rel=>exact⟨HF.out,3,l,oM,oM,by first|rfl|go_num,oM,HO,⟨fun h=>absurd h oM,fun h=>absurd h oM,fun _=>by rw[hl0];unfold DA;simp[HZ.out],fun h=>absurd h oM⟩⟩
    case measure=>simp[intOf]
   .have hz':(L2 != 0)=true:=by simpa using hz
    have hz2:(L2==0)=false:=by simpa using hz
    have HZ:Hid (¬L2=0):=hz;clear hz;go_wp2_with(first
     |(at_builtin;refine wpList_append_own_at _ rfl _ _ 58 rfl (G+1) 3 i0 _ 1 8 underlying58 hi0 hz0 hz1 hz3 rfl dE _ l.length (BK l) rfl (World.ownsRow.alloc HO.out _) ⟨wr.heap.size,0,none⟩ 1 1 [.int .i64 B] rfl rfl (World.news_of_block (cs:=#[.int .i64 B]) (t:=3) (fr:=(0,0)) (heap_alloc_new wr _)) Sz mL oM sO ?_;intro v' w3 hown3 hgrow hnil hat;have HO3:Hid (w3.ownsRow (G+1) 3 1 v' (l.length+1) (BK l++[.int .i64 B])):=hown3;have HB3:Hid (Below (G+1) wr w3):=(Below.alloc (Below.refl _ _) hGw _).grown hgrow sO (fun q e=>(HO.lt q e).1);clear hown3 hgrow hnil hat))
    go_roundw
    case rel=>exact⟨HF.next HB3.out,3,l++[B],oM,oM,by first|rfl|go_num,sO,by show _;rw[List.length_append,BY];exact HO3.out,⟨fun h=>absurd h oM,fun h=>absurd h oM,fun _=>by rw[hl0,show DA L2 B=[B]from if_neg HZ.out];try rfl,fun h=>absurd h oM⟩⟩
    case measure=>simp[intOf]
  .have r0:=hF.r3;have g0:=hF.g3;have f0:=kc (A0 wr (.cells #[.int .i64 E] 3)) g0;have hl0:=HL.2.2.1 rfl;clear hF;by_cases hz:L3=0
   .have hz':(L3 != 0)=false:=by simpa using hz
    have hz2:(L3==0)=true:=by simpa using hz
    have HZ:Hid (L3=0):=hz;clear hz;go_wp2;go_roundw
    case rel=>exact⟨HF.out,4,l,oM,oM,by first|rfl|go_num,oM,HO,⟨fun h=>absurd h oM,fun h=>absurd h oM,fun h=>absurd h oM,fun _=>by rw[hl0];unfold DA;simp[HZ.out]⟩⟩
    case measure=>simp[intOf]
   .have hz':(L3 != 0)=true:=by simpa using hz
    have hz2:(L3==0)=false:=by simpa using hz
    have HZ:Hid (¬L3=0):=hz;clear hz;go_wp2_with(first
     |(at_builtin;refine wpList_append_own_at _ rfl _ _ 58 rfl (G+1) 3 i0 _ 1 8 underlying58 hi0 hz0 hz1 hz3 rfl dE _ l.length (BK l) rfl (World.ownsRow.alloc HO.out _) ⟨wr.heap.size,0,none⟩ 1 1 [.int .i64 E] rfl rfl (World.news_of_block (cs:=#[.int .i64 E]) (t:=3) (fr:=(0,0)) (heap_alloc_new wr _)) Sz mL oM sO ?_;intro v' w3 hown3 hgrow hnil hat;have HO3:Hid (w3.ownsRow (G+1) 3 1 v' (l.length+1) (BK l++[.int .i64 E])):=hown3;have HB3:Hid (Below (G+1) wr w3):=(Below.alloc (Below.refl _ _) hGw _).grown hgrow sO (fun q e=>(HO.lt q e).1);clear hown3 hgrow hnil hat))
    go_roundw
    case rel=>exact⟨HF.next HB3.out,4,l++[E],oM,oM,by first|rfl|go_num,sO,by show _;rw[List.length_append,BY];exact HO3.out,⟨fun h=>absurd h oM,fun h=>absurd h oM,fun h=>absurd h oM,fun _=>by rw[hl0,show DA L3 E=[E]from if_neg HZ.out];try rfl⟩⟩
    case measure=>simp[intOf]
  .exact Z0
def Ve(b:Bk):List Value:=[.bool b.loop,.int .i64 b.par,.int .i64 b.ahead]
def BS(l:List Bk):List Value:=l.flatMap Ve
theorem Eo(l:List Bk)(b:Bk):BS (l++[b])=BS l++Ve b:=by simp[BS]
theorem D7:∀l:List Bk,(BS l).length=l.length*3
 |[]=>rfl
 |b::l=>by
  have e:BS (b::l)=Ve b++BS l:=by simp[BS]
  rw[e,List.length_append,D7 l];simp[Ve];omega
theorem En(l:List Bk)(b:Bk)(j:Nat){u:Value}(h:(Ve b)[j]? =some u):(BS (l++[b]))[l.length*3+j]? =some u:=by
 rw[Eo,List.getElem?_append_right (by rw[D7];omega),D7,Nat.add_sub_cancel_left];exact h
def Fu(l:List Nat):List Value:=l.map fun(x:Nat)=>Value.int .i64 (x:Int)
theorem Pv(l:List Nat)(x:Nat):Fu (l++[x])=Fu l++[.int .i64 (x:Int)]:=by simp[Fu]
theorem Pw(l:List Nat)(n:Nat):(Fu l).take n=Fu (l.take n):=by simp[Fu,List.map_take]
def WU(C gi n:Nat)(vs vo:Value)(j:Nat):Value:=if j=0 then .pointer (some ⟨C,0,none⟩)else if j=1 then .slice (some ⟨gi,0,none⟩) n n else if j=2 then vs else vo
structure WS(E G C n gi:Nat)(vs vo:Value)(w:World)(s:Wk):Prop where
 g:w.rowIs G 81 4 (WU C gi n vs vo)
 i:w.rowIs gi 4 n (fun j=>.bool (decide (j∈s.set)))
 set:w.ownsRow E 3 1 vs s.set.length (Fu s.set)
 opn:w.ownsRow E 143 3 vo s.opens.length (BS s.opens.reverse)
 hG:E<=G
 hgi:E<=gi
 n1:gi≠G
 n2:vs.ownBlock≠some G
 n3:vs.ownBlock≠some gi
 n4:vo.ownBlock≠some G
 n5:vo.ownBlock≠some gi
 n6:∀b,vs.ownBlock=some b->vo.ownBlock≠some b
section
variable {E G C n gi : Nat} {vs vo : Value} {w w' : World} {s : Wk}
theorem WS.below(h:WS E G C n gi vs vo w s)(k:Below w.heap.size w w'):WS E G C n gi vs vo w' s:=
 ⟨h.g.of_block (k.block _ h.g.lt),h.i.of_block (k.block _ h.i.lt),AA h.set k,AA h.opn k,h.hG,h.hgi,h.n1,h.n2,h.n3,h.n4,h.n5,h.n6⟩
theorem WS.c0(h:WS E G C n gi vs vo w s):w.cell? ⟨G,0,none⟩=some (.pointer (some ⟨C,0,none⟩)):=h.g.cell (i:=0) dE
theorem WS.c1(h:WS E G C n gi vs vo w s):w.cell? ⟨G,1,none⟩=some (.slice (some ⟨gi,0,none⟩) n n):=h.g.cell (i:=1) dE
theorem WS.c2(h:WS E G C n gi vs vo w s):w.cell? ⟨G,2,none⟩=some vs:=h.g.cell (i:=2) dE
theorem WS.c3(h:WS E G C n gi vs vo w s):w.cell? ⟨G,3,none⟩=some vo:=h.g.cell (i:=3) dE
theorem WS.lt(h:WS E G C n gi vs vo w s):E<=w.heap.size:=gH h.hG (Nat.le_of_lt h.g.lt)
end
theorem Ip(E G C n gi:Nat)(vs vo:Value)(s:Wk)(w:World)(h:WS E G C n gi vs vo w s)(hn:s.opens.length<=64):
 Calls prog 82 #[.pointer (some ⟨G,0,none⟩)] w fun e w'=>(∃A:Int,e=.returned (.tuple #[.agg #[.bool (Aq s),.int .i64 (BT s),.int .i64 A],.bool (!s.opens.isEmpty)]))/\Below w.heap.size w w':=by
 have c3:=h.c3;have ho:=h.opn;have hG:=h.g.lt;have nG:G≠w.heap.size:=oM;obtain⟨X,O⟩:=s;cases O with
 |nil=>
  obtain⟨p,q,rfl⟩:=At ho;unfold Aq BT;simp only[List.isEmpty_nil,Bool.not_true]at c3 |-;have f3:(w.alloc (.cells #[.bool false,.int .i64 0,.int .i64 0] 143)).cell? ⟨G,3,none⟩=some (.slice p 0 q):=kc (A0 _ _) c3;clear ho h;go_enter func82,ntmps82;go_wp2;refine bodyPost_ret (by simp[results,results82,go_sem];try rfl) rfl ?_;exact⟨⟨0,rfl⟩,gG⟩
 |cons b r=>
  obtain⟨g,cap,rfl,hE,hg,hc1,hc2,hcl⟩:=EH ho sM;unfold Aq BT;simp only[List.isEmpty_cons,Bool.not_false]at c3 |-;obtain⟨L,P,A⟩:=b;simp only[List.reverse_cons]at hcl;have hl:r.reverse.length=r.length:=List.length_reverse;have x0:=hcl (r.length*3) (.bool L) Zf;have x1:=hcl (r.length*3+1) (.int .i64 P) Ze;have x2:=hcl (r.length*3+2) (.int .i64 A) Zd;simp only[List.length_cons]at c3 hn hc1;obtain⟨m,hm⟩:=gA (r.length)
  rw[hm]at x0 x1 x2 c3 hn hc1;obtain⟨N,hN⟩:=gA (m+1)
  rw[hN]at c3 hn hc1;have hw:IntKind.i64.wrap ((N:Int)-1)=(m:Int):=by rw[IntKind.wrap_i64];omega
  have h0:((N:Int)==0)=false:=by have:(N:Int)≠0:=oM;simpa using this
  have h0':(N==0)=false:=by have:N≠0:=oM;simpa using this
  have i1:(0:Int)<=(m:Int):=oM;have i2:(m:Int)<(N:Int):=oM;have ng:g≠w.heap.size:=oM;have f3:(w.alloc (.cells #[.bool false,.int .i64 0,.int .i64 0] 143)).cell? ⟨G,3,none⟩=some (.slice (some ⟨g,0,none⟩) N cap):=kc (A0 _ _) c3;have y0:(w.alloc (.cells #[.bool false,.int .i64 0,.int .i64 0] 143)).cell? ⟨g,m*3,none⟩=some (.bool L):=kc (A0 _ _) x0;have y1:(w.alloc (.cells #[.bool false,.int .i64 0,.int .i64 0] 143)).cell? ⟨g,m*3+1,none⟩=some (.int .i64 P):=kc (A0 _ _) x1;have y2:(w.alloc (.cells #[.bool false,.int .i64 0,.int .i64 0] 143)).cell? ⟨g,m*3+2,none⟩=some (.int .i64 (A:Int)):=kc (A0 _ _) x2;have HN:Hid (m+1=N):=hN;clear hcl ho h hm hl hN hE;go_enter func82,ntmps82;go_wp2;refine rG (fun v=>v.cell? ⟨G,3,none⟩=some (.slice (some ⟨g,0,none⟩) N cap)/\v.cell? ⟨g,m*3,none⟩=some (.bool L)/\v.cell? ⟨g,m*3+1,none⟩=some (.int .i64 P)/\v.cell? ⟨g,m*3+2,none⟩=some (.int .i64 (A:Int))) fun hJ=>?_;refine Tf 0 1 2 3 4 5 ?_;refine Tf 6 7 8 9 10 11 ?_;clear hJ;refine AC 12 fun K hK=>?_;go_simp;refine AB hK fun hJ=>?_;clear hK K;refine Bm 13 ?_;refine wpAnyH_done kR ?_ _;go_wp2;refine bodyPost_ret (by simp[results,results82,go_sem];try rfl) rfl ?_;exact⟨⟨_,rfl⟩,gG⟩
theorem Ee(op:Int)(w:World):Calls prog 53 #[.int .i64 op] w fun e w'=>e=.returned (.bool (As op))/\w'=w:=by
 unfold As;by_cases h:3<=op
 all_goals
  go_enter func53,ntmps53;exact Xc
theorem Mi(op:Int)(w:World):Calls prog 83 #[.int .i64 op] w fun e w'=>e=.returned (.bool (BR op))/\w'=w:=by
 have HK:Hid (∀w,Calls prog 53 #[.int .i64 op] w fun e w'=>e=.returned (.bool (As op))/\w'=w):=Ee op;by_cases h:29<=op/\op<=33
 .have hl:BR op=true:=by unfold BR;simp;omega
  rw[hl];obtain rfl|rfl|rfl|rfl|rfl:op=29\/op=30\/op=31\/op=32\/op=33:=oM
  all_goals
   clear h hl HK;go_enter func83,ntmps83;go_wp2;go_ret;exact⟨rfl,rfl⟩
 .have hl:BR op=As op:=by
   unfold BR;have:(decide (29<=op)&&decide (op<=33))=false:=sO;rw[this];rfl
  rw[hl];have e1:(op==29)=false:=by have:op≠29:=oM;simpa using this
  have e2:(op==30)=false:=by have:op≠30:=oM;simpa using this
  have e3:(op==31)=false:=by have:op≠31:=oM;simpa using this
  have e4:(op==32)=false:=by have:op≠32:=oM;simpa using this
  have e5:(op==33)=false:=by have:op≠33:=oM;simpa using this
  clear h hl;go_enter func83,ntmps83;go_wp2_with(go_at_call 53;refine(HK.out _).mono ?_;rintro e w1 ⟨rfl,rfl⟩);go_ret;exact⟨rfl,rfl⟩
theorem EE(s:ByteArray):(s.toList==[])=(s.size==0):=by
 rw[Bool.eq_iff_iff];simp only[beq_iff_eq];constructor
 .intro h;rw[ByteArray.toList_eq]at h;show s.data.size=0;rw[<-Array.length_toList,h];rfl
 .intro h;rw[ByteArray.toList_eq];exact List.eq_nil_of_length_eq_zero (by rw[Array.length_toList];exact h)
theorem CR(s:ByteArray):s.toList.isEmpty=(s.size==0):=by
 rw[<-EE,Bool.eq_iff_iff];simp
theorem IN{s:ByteArray}{j:Nat}(h:j<s.size)(hq:G4 (s[j].toNat:Int)=false):B3 s=false:=by
 unfold B3;have:((bs s).all fun b=>G4 (nb b))=false:=by
  rw[List.all_eq_false];exact⟨s[j],by unfold bs;exact Array.mem_toList_iff.2 (Array.getElem_mem (xs:=s.data) h),by simp[nb,hq]⟩
 rw[this,Bool.and_false]
theorem Mk{s:ByteArray}(h0:s.size≠0)(h1:s.size<=64)(h:∀j (h:j<s.size),G4 (s[j].toNat:Int)=true):B3 s=true:=by
 unfold B3;have:((bs s).all fun b=>G4 (nb b))=true:=by
  rw[List.all_eq_true];intro b hb;obtain⟨j,hj,rfl⟩:=List.mem_iff_getElem.1 hb;exact h j (by rw[<-Oo];exact hj)
 rw[this];simp[h0,h1]
theorem MD(s:ByteArray)(hs:s.size<=140737488351232)(w:World):
 Calls prog 85 #[.string s] w fun e w'=>e=.returned (.bool (B3 s))/\w'=w:=by
 by_cases h0:s.size=0
 .have he:s.toList.isEmpty=true:=by rw[CR];simp[h0]
  have he2:(s.toList==[])=true:=by rw[EE];simp[h0]
  have hf:B3 s=false:=by unfold B3;simp[h0]
  rw[hf];go_enter func85,ntmps85;go_wp2
  all_goals(go_ret;exact⟨rfl,rfl⟩)
 .have he:s.toList.isEmpty=false:=by rw[CR];simp[h0]
  have he2:(s.toList==[])=false:=by rw[EE];simp[h0]
  by_cases h64:s.size<=64
  .have h64':¬ ((64:Int)<(s.size:Int)):=oM;go_enter func85,ntmps85;go_wp2
   go_loopw [3] (fun iv wr=>wr=w/\∃j:Nat,j<=s.size/\iv=.int .i64 j/\Hid (∀i (h:i<s.size),i<j->G4 (s[i].toNat:Int)=true)) (fun iv _=>s.size-(intOf iv).toNat)
   case atStart=>exact⟨rfl,0,gI _,rfl,fun i h hi=>absurd hi (Nat.not_lt_zero _)⟩
   case round=>
    obtain⟨rfl,j,hj,rfl,hp⟩:=hrel;by_cases hlt:j<s.size
    .have i1:(0:Int)<=(j:Int):=oM;have i2:(j:Int)<(s.size:Int):=oM;have NX:Hid (G4 (s[j].toNat:Int)=true->∀i (h:i<s.size),i<j+1->G4 (s[i].toNat:Int)=true):=fun hq i h hi=>by
      exact V8
     have NB:Hid (G4 (s[j].toNat:Int)=false->B3 s=false):=fun h=>IN hlt h;go_upto_region 7 with(fail)
     obtain⟨c,hc⟩:∃c:Int,(s[j].toNat:Int)=c:=⟨_,rfl⟩
     have hc2:0<=c/\c<=255:=by have:=s[j].toNat_lt;omega
     rw[hc]at NX NB |-;clear hc;go_cut [59] (fun cv wx=>cv=.bool (!G4 c)/\wx=wr)
     case first=>
      have hcl:(0<=c/\c<=44)\/(c=45)\/(c=46)\/(c=47)\/(48<=c/\c<=57)\/(58<=c/\c<=64)\/(65<=c/\c<=90)\/(91<=c/\c<=94)\/(c=95)\/(c=96)\/(97<=c/\c<=122)\/(123<=c/\c<=255):=oM;rcases hcl with h|h|h|h|h|h|h|h|h|h|h|h
      .have f97:¬ (97:Int)<=c:=oM;have f65:¬ (65:Int)<=c:=oM;have f48:¬ (48:Int)<=c:=oM;have g122:c<=(122:Int):=oM;have g90:c<=(90:Int):=oM;have g57:c<=(57:Int):=oM;exact Wf
      .have f97:¬ (97:Int)<=c:=oM;have f65:¬ (65:Int)<=c:=oM;have f48:¬ (48:Int)<=c:=oM;have g122:c<=(122:Int):=oM;have g90:c<=(90:Int):=oM;have g57:c<=(57:Int):=oM;have e95:(c==(95:Int))=false:=by rw[beq_eq_false_iff_ne];omega
       have e46:(c==(46:Int))=false:=by rw[beq_eq_false_iff_ne];omega
       have e47:(c==(47:Int))=false:=by rw[beq_eq_false_iff_ne];omega
       have e45:(c==(45:Int))=true:=sO;have hp2:G4 c=true:=by unfold G4;simp[*]
       clear h hp NX NB;go_wp2;go_meet;exact⟨by rw[hp2];rfl,rfl⟩
      .have f97:¬ (97:Int)<=c:=oM;have f65:¬ (65:Int)<=c:=oM;have f48:¬ (48:Int)<=c:=oM;have g122:c<=(122:Int):=oM;have g90:c<=(90:Int):=oM;have g57:c<=(57:Int):=oM;have e95:(c==(95:Int))=false:=by rw[beq_eq_false_iff_ne];omega
       have e46:(c==(46:Int))=true:=sO;exact Wg
      .have f97:¬ (97:Int)<=c:=oM;have f65:¬ (65:Int)<=c:=oM;have f48:¬ (48:Int)<=c:=oM;have g122:c<=(122:Int):=oM;have g90:c<=(90:Int):=oM;have g57:c<=(57:Int):=oM;have e95:(c==(95:Int))=false:=by rw[beq_eq_false_iff_ne];omega
       have e46:(c==(46:Int))=false:=by rw[beq_eq_false_iff_ne];omega
       have e47:(c==(47:Int))=true:=sO;have e45:(c==(45:Int))=false:=by rw[beq_eq_false_iff_ne];omega
       have hp2:G4 c=true:=by unfold G4;simp[*]
       clear h hp NX NB;go_wp2;go_meet;exact⟨by rw[hp2];rfl,rfl⟩
      .have f97:¬ (97:Int)<=c:=oM;have f65:¬ (65:Int)<=c:=oM;have f48:(48:Int)<=c:=oM;have g122:c<=(122:Int):=oM;have g90:c<=(90:Int):=oM;have g57:c<=(57:Int):=oM;have e95:(c==(95:Int))=false:=by rw[beq_eq_false_iff_ne];omega
       have e46:(c==(46:Int))=false:=by rw[beq_eq_false_iff_ne];omega
       exact Wg
      .have f97:¬ (97:Int)<=c:=oM;have f65:¬ (65:Int)<=c:=oM;have f48:(48:Int)<=c:=oM;have g122:c<=(122:Int):=oM;have g90:c<=(90:Int):=oM;have g57:¬c<=(57:Int):=oM;exact Wf
      .have f97:¬ (97:Int)<=c:=oM;have f65:(65:Int)<=c:=oM;have f48:(48:Int)<=c:=oM;have g122:c<=(122:Int):=oM;have g90:c<=(90:Int):=oM;have g57:¬c<=(57:Int):=oM;have e95:(c==(95:Int))=false:=by rw[beq_eq_false_iff_ne];omega
       have e46:(c==(46:Int))=false:=by rw[beq_eq_false_iff_ne];omega
       exact Wg
      .have f97:¬ (97:Int)<=c:=oM;have f65:(65:Int)<=c:=oM;have f48:(48:Int)<=c:=oM;have g122:c<=(122:Int):=oM;have g90:¬c<=(90:Int):=oM;have g57:¬c<=(57:Int):=oM;exact Wf
      .have f97:¬ (97:Int)<=c:=oM;have f65:(65:Int)<=c:=oM;have f48:(48:Int)<=c:=oM;have g122:c<=(122:Int):=oM;have g90:¬c<=(90:Int):=oM;have g57:¬c<=(57:Int):=oM;have e95:(c==(95:Int))=true:=sO;have e46:(c==(46:Int))=false:=by rw[beq_eq_false_iff_ne];omega
       exact Wg
      .have f97:¬ (97:Int)<=c:=oM;have f65:(65:Int)<=c:=oM;have f48:(48:Int)<=c:=oM;have g122:c<=(122:Int):=oM;have g90:¬c<=(90:Int):=oM;have g57:¬c<=(57:Int):=oM;exact Wf
      .have f97:(97:Int)<=c:=oM;have f65:(65:Int)<=c:=oM;have f48:(48:Int)<=c:=oM;have g122:c<=(122:Int):=oM;have g90:¬c<=(90:Int):=oM;have g57:¬c<=(57:Int):=oM;have e95:(c==(95:Int))=false:=by rw[beq_eq_false_iff_ne];omega
       have e46:(c==(46:Int))=false:=by rw[beq_eq_false_iff_ne];omega
       exact Wg
      .have f97:(97:Int)<=c:=oM;have f65:(65:Int)<=c:=oM;have f48:(48:Int)<=c:=oM;have g122:¬c<=(122:Int):=oM;have g90:¬c<=(90:Int):=oM;have g57:¬c<=(57:Int):=oM;exact Wf
     case rest=>
      obtain⟨rfl,rfl⟩:=hcut;cases hq:G4 c
      .have HB2:Hid (B3 s=false):=NB.out hq;clear NX NB hp hc2;go_wp2;go_ret;exact⟨A6 HB2.symm,rfl⟩
      .have HP2:Hid (∀i (h:i<s.size),i<j+1->G4 (s[i].toNat:Int)=true):=NX.out hq;clear NX NB hp hc2;go_wp2;go_roundw
       case rel=>exact⟨by trivial,j+1,oM,gN,HP2.out⟩
       case measure=>simp[intOf];omega
    .exact YZ
  .have hf:B3 s=false:=by unfold B3;simp[h0,h64]
   have h64':(64:Int)<(s.size:Int):=oM;rw[hf];go_enter func85,ntmps85;go_wp2
   all_goals(go_ret;exact⟨rfl,rfl⟩)
theorem Jn(p:Bd):B5 p=((B3 p.name&&(p.kind==1||p.kind==2))&&(decide (1<=p.len)&&decide (p.len<=4096))):=rfl
theorem Ks(p:Bd)(hs:p.name.size<=140737488351232)(w:World):
 Calls prog 55 #[pv p] w fun e w'=>e=.returned (.bool (B5 p))/\Below w.heap.size w w':=by
 rw[Jn];obtain⟨X,K,L⟩:=p;unfold pv;have KN:=MD X hs;simp only;obtain⟨N,hN⟩:=gA (B3 X)
 rw[hN]at KN |-;have HK:Hid (∀w,Calls prog 85 #[.string X] w fun e w'=>e=.returned (.bool N)/\w'=w):=KN;clear KN hN;cases N
 .go_enter func55,ntmps55;go_wp2_with(go_at_call 85;refine(HK.out _).mono ?_;rintro e w1 ⟨rfl,rfl⟩);go_ret;exact⟨rfl,A0 _ _⟩
 .have hk:((K==1)=true/\(K==2)=false)\/((K==1)=false/\(K==2)=true)\/((K==1)=false/\(K==2)=false):=by
   exact YT
  have hL:(1<=L/\L<=4096)\/(¬1<=L/\L<=4096)\/(1<=L/\¬L<=4096):=oM;rcases hk with⟨h1,h2⟩|⟨h1,h2⟩|⟨h1,h2⟩<;>rcases hL with⟨h3,h4⟩|⟨h3,h4⟩|⟨h3,h4⟩
  all_goals
   go_enter func55,ntmps55;go_wp2_with(go_at_call 85;refine(HK.out _).mono ?_;rintro e w1 ⟨rfl,rfl⟩);go_ret;exact⟨A6 (by simp[h1,h2,h3,h4]),A0 _ _⟩
theorem FM(p:Bd)(hs:p.name.size<=140737488351232)(w:World):
 Calls prog 34 #[pv p] w fun e w'=>e=.returned (.int .i64 (Cn p))/\Below w.heap.size w w':=by
 have KM:=Ks p hs;have hm:B5 p=true->1<=p.len/\p.len<=4096:=fun h=>by rw[Jn]at h;simp at h;exact h.2
 have hn:Cn p=if B5 p then(if p.kind==2 then 2*p.len else p.len)else 0:=rfl;rw[hn];clear hn;obtain⟨N,hN⟩:=gA (B5 p)
 rw[hN]at KM hm |-;clear hN hs;obtain⟨X,K,L⟩:=p;unfold pv at KM |-;simp only at hm KM |-;have HK:Hid (∀w,Calls prog 55 #[.agg #[.string X,.int .i64 K,.int .i64 L]] w fun e w'=>e=.returned (.bool N)/\Below w.heap.size w w'):=KM;clear KM;cases N
 .clear hm;go_enter func34,ntmps34;go_wp2_with(go_at_call 55;refine(HK.out _).mono ?_;rintro e w1 ⟨rfl,hb1⟩);exact Xd
 .have hL:=hm rfl;clear hm;cases h2:(K==2)
  .go_enter func34,ntmps34;go_wp2_with(go_at_call 55;refine(HK.out _).mono ?_;rintro e w1 ⟨rfl,hb1⟩;have c1:w1.cell? ⟨w.heap.size,1,none⟩=some (.int .i64 K):=(hb1.cell sM).trans sG;have c2:w1.cell? ⟨w.heap.size,2,none⟩=some (.int .i64 L):=(hb1.cell sM).trans sG);exact Xd
  .go_enter func34,ntmps34;go_wp2_with(go_at_call 55;refine(HK.out _).mono ?_;rintro e w1 ⟨rfl,hb1⟩;have c1:w1.cell? ⟨w.heap.size,1,none⟩=some (.int .i64 K):=(hb1.cell sM).trans sG;have c2:w1.cell? ⟨w.heap.size,2,none⟩=some (.int .i64 L):=(hb1.cell sM).trans sG);go_ret;exact⟨E4 sM,bel (A0 _ _) hb1⟩
theorem M2{a b:ByteArray}(h:(a.toList==b.toList)=true):a=b:=by
 rw[beq_iff_eq,ByteArray.toList_eq,ByteArray.toList_eq]at h;exact Q8 h
theorem TF{a b:ByteArray}(h:a=b):(a.toList==b.toList)=true:=by rw[h];simp
theorem TG{a b:ByteArray}(h:a≠b):(a.toList==b.toList)=false:=by
 cases e:(a.toList==b.toList)
 .rfl
 .exact absurd (M2 e) h
theorem P1(v:Value)(l:List Bd)(hl:l.length<=140737488351232)(s:ByteArray)(w:World)(hr:Rd w v l):
 Calls prog 56 #[v,.string s] w fun e w'=>e=.returned (.tuple #[.int .i64 ((AD s l).getD 0:Nat),.bool (AD s l).isSome])/\w'=w:=by
 obtain⟨p,c,rfl,hr⟩:=hr;obtain⟨n,hn⟩:=gA (l.length)
 rw[hn]at hl |-;have HN:Hid (l.length=n):=hn;have HR:Hid (PN w p l):=hr;clear hn hr;go_enter func56,ntmps56;go_wp2
 go_loopw [6] (fun iv wr=>wr=w/\∃j:Nat,j<=n/\iv=.int .i64 j/\Hid (∀i (h:i<l.length),i<j->l[i].name≠s)) (fun iv _=>n-(intOf iv).toNat)
 case atStart=>exact⟨rfl,0,gI _,rfl,fun i h hi=>absurd hi (Nat.not_lt_zero _)⟩
 case round=>
  obtain⟨rfl,j,hj,rfl,hp⟩:=hrel;by_cases hlt:j<n
  .have hll:j<l.length:=by rw[HN.out];exact hlt
   obtain⟨b,o,rfl,x0,x1,x2⟩:=HR.at hll;have i1:(0:Int)<=(j:Int):=oM;have i2:(j:Int)<(n:Int):=oM;by_cases he:l[j].name=s
   .have HF:Hid (AD s l=some j):=IE hll he hp.out;have he':=TF he;clear hp he;go_wp2
    go_ret2
    exact⟨by rw[HF.out];rfl,rfl⟩
   .have HP2:Hid (∀i (h:i<l.length),i<j+1->l[i].name≠s):=fun i h hi=>by
     by_cases e:i=j
     .subst e;exact he
     .exact hp.out i h oM
    have he':=TG he;clear hp he;go_wp2;go_roundw
    case rel=>exact⟨by trivial,j+1,oM,gN,HP2.out⟩
    case measure=>simp[intOf];omega
  .have:j=n:=oM;subst this;have HF:Hid (AD s l=none):=ID fun i h=>hp.out i h (by rw[<-HN.out];exact h);clear hp;go_wp2
   go_ret2
   exact⟨by rw[HF.out];rfl,rfl⟩
theorem Mv(v:Value)(l:List Bd)(hl:l.length<=140737488351232)(hM:∀p∈l,p.name.size<=140737488351232)(w:World)(hr:Rd w v l):
 Calls prog 57 #[v] w fun e w'=>e=.returned (.int .i64 (BV l))/\Below w.heap.size w w':=by
 obtain⟨p,c,rfl,hr⟩:=hr;obtain⟨n,hn⟩:=gA (l.length)
 rw[hn]at hl |-;have HN:Hid (l.length=n):=hn;have HR:Hid (PN w p l):=hr;have HM:Hid (∀p∈l,p.name.size<=140737488351232):=hM;clear hn hr hM;go_enter func57,ntmps57;go_wp2
 go_loopw [3,4] (fun tv iv wr=>Below w.heap.size w wr/\∃j:Nat,j<=n/\iv=.int .i64 j/\tv=.int .i64 (BV (l.take j))) (fun _ iv _=>n-(intOf iv).toNat)
 case atStart=>exact⟨BE w,0,gI _,rfl,rfl⟩
 case round=>
  obtain⟨hb,j,hj,rfl,rfl⟩:=hrel;by_cases hlt:j<n
  .have hll:j<l.length:=by rw[HN.out];exact hlt
   obtain⟨b,o,rfl,hx⟩:=HR.at hll;obtain⟨x0,x1,x2⟩:=hx.below hb;have i1:(0:Int)<=(j:Int):=oM;have i2:(j:Int)<(n:Int):=oM;have KN:=FM l[j] (HM.out _ (gD hll));unfold pv at KN;have HK:Hid (∀w,Calls prog 34 #[.agg #[.string l[j].name,.int .i64 l[j].kind,.int .i64 l[j].len]] w fun e w'=>e=.returned (.int .i64 (Cn l[j]))/\Below w.heap.size w w'):=KN;have ht:BV (l.take (j+1))=BV (l.take j)+Cn l[j]:=by rw[Gk hll,Lo]
   have hb1:=Fw (l.take j);have hb2:=Fs l[j];rw[List.length_take,HN.out,Nat.min_eq_left hj]at hb1;obtain⟨T,hT⟩:=gA (BV (l.take j))
   obtain⟨U,hU⟩:=gA (Cn l[j])
   rw[hT,hU]at ht;rw[hT]at hb1 |-;rw[hU]at hb2 HK;have HT:Hid (BV (l.take (j+1))=T+U):=ht;have hw1:IntKind.i64.wrap (T+U)=T+U:=by rw[IntKind.wrap_i64];omega
   clear KN ht hT hU hx;go_wp2_with(go_at_call 34;refine(HK.out _).mono ?_;rintro e w1 ⟨rfl,hb3⟩);go_roundw
   case rel=>exact⟨bel hb hb3,j+1,oM,gN,by rw[HT.out]⟩
   case measure=>simp[intOf];omega
  .exact YP
theorem Nh{s:ByteArray}:∀ {l:List Bd} {k:Nat},AD s l=some k->k<l.length/\∀h:k<l.length,l[k].name=s
 |[],k,h=>by cases h
 |p::r,k,h=>by
  simp only[AD]at h;split at h
  .rename_i e;cases h
   exact⟨sM,fun _=>e⟩
  .cases hf:AD s r with
   |none=>rw[hf]at h;cases h
   |some m=>
    rw[hf]at h;cases h
    obtain⟨h1,h2⟩:=Nh hf;exact⟨by simp;exact h1,fun _=>by simp only[List.getElem_cons_succ];exact h2 h1⟩
theorem GP{s:ByteArray}:∀ {l:List Bd} {i:Nat} (h:i<l.length),l[i].name=s->∃k,AD s l=some k/\k<=i
 |[],i,h,_=>absurd h (Nat.not_lt_zero _)
 |p::r,i,h,e=>by
  simp only[AD];split
  .exact⟨0,rfl,gI _⟩
  .rename_i hp;cases i with
   |zero=>exact absurd e hp
   |succ i=>
    obtain⟨k,hk,hki⟩:=GP (l:=r) (i:=i) SL (by simpa using e);exact⟨k+1,by rw[hk];rfl,oM⟩
theorem So{l:List Bd}{i:Nat}(h:i<l.length)(hk:(AD l[i].name l).getD 0≠i):AY l=true:=by
 obtain⟨k,hk1,hk2⟩:=GP (l:=l) h rfl;rw[hk1]at hk;obtain⟨h1,h2⟩:=Nh hk1;have hne:k≠i:=hk;exact Gl.2 ⟨i,k,h,h1,oM,h2 h1⟩
theorem TT{l:List Bd}(h:∀i (h:i<l.length),(AD l[i].name l).getD 0=i):AY l=false:=by
 cases ht:AY l
 .rfl
 .obtain⟨i,j,hi,hj,hji,e⟩:=Gl.1 ht;obtain⟨k,hk,hkj⟩:=GP (s:=l[i].name) hj e;have:=h i hi;rw[hk]at this;have:k=i:=this;omega
theorem Hx(v:Value)(l:List Bd)(hl:l.length<=140737488351232)(hM:∀p∈l,p.name.size<=140737488351232)(w:World)(hr:Rd w v l):
 Calls prog 27 #[v] w fun e w'=>e=.returned (.int .i64 (Ay l))/\Below w.heap.size w w':=by
 have KT:Hid (∀w,Rd w v l->Calls prog 57 #[v] w fun e w'=>e=.returned (.int .i64 (BV l))/\Below w.heap.size w w'):=fun w h=>Mv v l hl hM w h;have KF:Hid (∀w s,Rd w v l->Calls prog 56 #[v,.string s] w fun e w'=>e=.returned (.tuple #[.int .i64 ((AD s l).getD 0:Nat),.bool (AD s l).isSome])/\w'=w):=fun w s h=>P1 v l hl s w h;have HRD:Hid (Rd w v l):=hr;obtain⟨p,c,rfl,hr⟩:=hr;obtain⟨n,hn⟩:=gA (l.length)
 have HN:Hid (l.length=n):=hn;have HR:Hid (PN w p l):=hr;have HM:Hid (∀p∈l,p.name.size<=140737488351232):=hM;have HC:Hid (Ay l=if n>64 then 2 else if l.all B5=false then 100 else if AY l then 101 else if BV l>65536 then 102 else 0):=by
  show _=_;unfold Ay;rw[hn]
 rw[hn]at hl HRD KT KF |-;clear hn hr hM;by_cases h64:n<=64
 .have h64':¬ (64:Int)<(n:Int):=oM;have hng:¬n>64:=oM;have HC2:Hid (Ay l=if l.all B5=false then 100 else if AY l then 101 else if BV l>65536 then 102 else 0):=by show _=_;rw[HC.out,if_neg hng]
  clear HC hng;go_enter func27,ntmps27;go_wp2
  go_loopw [3] (fun iv wr=>Below w.heap.size w wr/\∃j:Nat,j<=n/\iv=.int .i64 j/\Hid (∀i (h:i<l.length),i<j->B5 l[i]=true)) (fun iv _=>n-(intOf iv).toNat)
  case atStart=>exact⟨BE w,0,gI _,rfl,fun i h hi=>absurd hi (Nat.not_lt_zero _)⟩
  case round=>
   obtain⟨hb,j,hj,rfl,hp⟩:=hrel;by_cases hlt:j<n
   .have hll:j<l.length:=by rw[HN.out];exact hlt
    obtain⟨b,o,rfl,hx⟩:=HR.at hll;obtain⟨x0,x1,x2⟩:=hx.below hb;have i1:(0:Int)<=(j:Int):=oM;have i2:(j:Int)<(n:Int):=oM;have KM:=Ks l[j] (HM.out _ (gD hll));unfold pv at KM;have HA:Hid (B5 l[j]=false->l.all B5=false):=fun h=>List.all_eq_false.2 ⟨l[j],gD hll,by rw[h];decide⟩;have HB:Hid (B5 l[j]=true->∀i (h:i<l.length),i<j+1->B5 l[i]=true):=fun hq i h hi=>by
     exact V8
    obtain⟨M,hMM⟩:=gA (B5 l[j])
    rw[hMM]at KM HA HB;have HK:Hid (∀w,Calls prog 55 #[.agg #[.string l[j].name,.int .i64 l[j].kind,.int .i64 l[j].len]] w fun e w'=>e=.returned (.bool M)/\Below w.heap.size w w'):=KM;clear KM hMM hx hp;cases M
    .have HA2:Hid (Ay l=100):=by show _=_;rw[HC2.out,if_pos (HA.out rfl)]
     clear HA HB;go_wp2_with(go_at_call 55;refine(HK.out _).mono ?_;rintro e w1 ⟨rfl,hb1⟩);go_ret;exact⟨E4 HA2.symm,bel hb hb1⟩
    .have HB2:Hid (∀i (h:i<l.length),i<j+1->B5 l[i]=true):=HB.out rfl;clear HA HB;go_wp2_with(go_at_call 55;refine(HK.out _).mono ?_;rintro e w1 ⟨rfl,hb1⟩);go_roundw
     case rel=>exact⟨bel hb hb1,j+1,oM,gN,HB2.out⟩
     case measure=>simp[intOf];omega
   .have:j=n:=oM;subst this;have hall:l.all B5=true:=List.all_eq_true.2 fun q hq=>by
     obtain⟨i,hi,rfl⟩:=List.mem_iff_getElem.1 hq;exact Xe
    have HC3:Hid (Ay l=if AY l then 101 else if BV l>65536 then 102 else 0):=by show _=_;rw[HC2.out,if_neg (by rw[hall];decide)]
    clear hp hall HC2;go_wp2
    go_loopw [4] (fun iv wr=>Below w.heap.size w wr/\∃i:Nat,i<=j/\iv=.int .i64 i/\Hid (∀k (h:k<l.length),k<i->(AD l[k].name l).getD 0=k)) (fun iv _=>j-(intOf iv).toNat)
    case atStart=>exact⟨hb,0,gI _,rfl,fun i h hi=>absurd hi (Nat.not_lt_zero _)⟩
    case round=>
     obtain⟨hb',i,hi,rfl,hp⟩:=hrel;by_cases hlt':i<j
     .have hll:i<l.length:=by rw[HN.out];exact hlt'
      obtain⟨b,o,rfl,hx⟩:=HR.at hll;obtain⟨x0,x1,x2⟩:=hx.below hb';have i1:(0:Int)<=(i:Int):=oM;have i2:(i:Int)<(j:Int):=oM;have K1:=KF.out _ l[i].name (HRD.below hb');have hlo:=GP (l:=l) hll rfl;obtain⟨k0,hk0,hk1⟩:=hlo;have T1:=So (l:=l) hll;rw[hk0]at K1 T1;have HP0:Hid ((AD l[i].name l).getD 0=k0):=by show _=_;rw[hk0];rfl
      simp only[Option.getD_some,Option.isSome_some]at K1 T1;have HK:Hid (Calls prog 56 #[.slice (some ⟨b,o,none⟩) j c,.string l[i].name] _ fun e w'=>e=.returned (.tuple #[.int .i64 (k0:Int),.bool true])/\w'=_):=K1;clear K1 hk0 hx;by_cases hki:k0=i
      .have HB2:Hid (∀k (h:k<l.length),k<i+1->(AD l[k].name l).getD 0=k):=fun k h hk=>by
        by_cases e:k=i
        .subst e;rw[HP0.out,hki]
        .exact hp.out k h oM
       subst hki;clear T1 hp HP0;go_wp2_with(go_at_call 56;refine HK.mono ?_;rintro e w1 ⟨rfl,rfl⟩);go_roundw
       case rel=>exact⟨hb',k0+1,oM,gN,HB2.out⟩
       case measure=>simp[intOf];omega
      .have HA2:Hid (Ay l=101):=by show _=_;rw[HC3.out,if_pos (T1 hki)]
       have hne:((k0:Int)==(i:Int))=false:=by rw[beq_eq_false_iff_ne];omega
       have hne':((k0:Int) != (i:Int))=true:=by rw[bne,hne];rfl
       clear T1 hp HP0;go_wp2_with(go_at_call 56;refine HK.mono ?_;rintro e w1 ⟨rfl,rfl⟩);go_ret;exact⟨E4 HA2.symm,hb'⟩
     .have:i=j:=oM;subst this;have hon:AY l=false:=TT fun k h=>hp.out k h (by rw[<-HN.out];exact h);have HC4:Hid (Ay l=if BV l>65536 then 102 else 0):=by show _=_;rw[HC3.out,hon];rfl
      have K1:=KT.out _ (HRD.below hb');obtain⟨T,hT⟩:=gA (BV l)
      rw[hT]at HC4 K1;have HK:Hid (Calls prog 57 #[.slice p i c] _ fun e w'=>e=.returned (.int .i64 T)/\Below _ _ w'):=K1;clear K1 hT hp hon HC3;by_cases h6:T>65536
      .have HC5:Hid (Ay l=102):=by show _=_;rw[HC4.out,if_pos h6]
       have h6':(65536:Int)<T:=h6;exact Z3
      .have HC5:Hid (Ay l=0):=by show _=_;rw[HC4.out,if_neg h6]
       have h6':¬ (65536:Int)<T:=h6;exact Z3
 .have h64':(64:Int)<(n:Int):=oM;have HC2:Hid (Ay l=2):=by show _=_;rw[HC.out,if_pos oM]
  clear HC;go_enter func27,ntmps27;go_wp2;go_ret;exact⟨E4 HC2.symm,BE _⟩
theorem Md:(prog.info? 73).map (fun i=>(i.zero,i.size,i.bytes))=some (some (.agg #[.string ⟨#[]⟩,.int .i64 0,.int .i64 0]),3,32):=kR
theorem Zm{α:Type}{l:List α}(h:l.length=3):∃a b c,l=[a,b,c]:=by
 match l,h with
 |[a,b,c],_=>exact⟨a,b,c,rfl⟩


theorem RF(w:World):Calls prog 62 #[.int .i64 1] w fun e w'=>e=.returned (.tuple #[.string ⟨#[110,45,45,45,45]⟩,.bool true])/\w'=w:=by
 exact Eb
theorem RG(w:World):Calls prog 62 #[.int .i64 2] w fun e w'=>e=.returned (.tuple #[.string ⟨#[119,45,45,45,105]⟩,.bool true])/\w'=w:=by
 exact Eb
theorem RH(w:World):Calls prog 62 #[.int .i64 3] w fun e w'=>e=.returned (.tuple #[.string ⟨#[97,99,45,45,45]⟩,.bool true])/\w'=w:=by
 exact Eb
theorem RI(w:World):Calls prog 62 #[.int .i64 4] w fun e w'=>e=.returned (.tuple #[.string ⟨#[100,120,120,45,45]⟩,.bool true])/\w'=w:=by
 exact Eb
theorem RJ(w:World):Calls prog 62 #[.int .i64 5] w fun e w'=>e=.returned (.tuple #[.string ⟨#[100,120,120,45,45]⟩,.bool true])/\w'=w:=by
 exact Eb
theorem RK(w:World):Calls prog 62 #[.int .i64 6] w fun e w'=>e=.returned (.tuple #[.string ⟨#[100,120,120,45,45]⟩,.bool true])/\w'=w:=by
 exact Eb
theorem RM(w:World):Calls prog 62 #[.int .i64 7] w fun e w'=>e=.returned (.tuple #[.string ⟨#[100,120,120,45,45]⟩,.bool true])/\w'=w:=by
 exact Eb
theorem RN(w:World):Calls prog 62 #[.int .i64 8] w fun e w'=>e=.returned (.tuple #[.string ⟨#[100,120,120,45,45]⟩,.bool true])/\w'=w:=by
 exact Eb
theorem RO(w:World):Calls prog 62 #[.int .i64 9] w fun e w'=>e=.returned (.tuple #[.string ⟨#[100,120,120,45,45]⟩,.bool true])/\w'=w:=by
 exact Eb
theorem ND(w:World):Calls prog 62 #[.int .i64 10] w fun e w'=>e=.returned (.tuple #[.string ⟨#[100,120,120,45,45]⟩,.bool true])/\w'=w:=by
 exact Eb
theorem NE(w:World):Calls prog 62 #[.int .i64 11] w fun e w'=>e=.returned (.tuple #[.string ⟨#[100,120,45,45,45]⟩,.bool true])/\w'=w:=by
 exact Eb
theorem NF(w:World):Calls prog 62 #[.int .i64 12] w fun e w'=>e=.returned (.tuple #[.string ⟨#[100,120,45,45,45]⟩,.bool true])/\w'=w:=by
 exact Eb
end Go.Proofs.YtheanilpbnencaaGreat
