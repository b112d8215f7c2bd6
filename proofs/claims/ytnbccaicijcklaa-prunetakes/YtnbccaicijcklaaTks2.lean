import Derived.WalkKit
import Derived.WalkSpells
import Derived.Test.YtnbccaicijcklaaTks1
import Derived.Test.YtnbccaicijcklaaRows
import Derived.WalkLawsBesides
namespace Go.Proofs.Ytnbccaicijcklaa
open Go.RowKit Go.Proofs.Try
set_option linter.all false
set_option maxRecDepth 100000
set_option maxHeartbeats 16000000
theorem Hs(a:Int)(k:Nat)(hk:k<32)(h0:0<=a)(h1:a<4294967296):bits .and .u32 a ((2^k-1:Nat):Int)=a%((2^k:Nat):Int):=by
 have hp:2^k<2^32:=Nat.pow_lt_pow_right oM hk;have hq:0<2^k:=Nat.two_pow_pos k;obtain⟨n,rfl⟩:=Int.eq_ofNat_of_zero_le h0;rw[u32_and _ _ h0 h1 oM oM,Int.toNat_natCast,Int.toNat_natCast,Nat.and_two_pow_sub_one_eq_mod];rfl
theorem Pq(a:Int)(h0:0<=a)(h1:a<4294967296):bits .and .u32 a 8388607=a%8388608:=Hs a 23 oM h0 h1
theorem Qa(a:Int)(h0:0<=a)(h1:a<4294967296):bits .and .u32 a 255=a%256:=Hs a 8 oM h0 h1
theorem LV(a:Int)(h0:0<=a)(h1:a<4294967296):bits .and .u32 a 2147483648=if 2147483648<=a then 2147483648 else 0:=by
 rw[u32_and a _ h0 h1 oM oM,show(2147483648:Int).toNat=2^31 from rfl,nat_bit];split<;>omega
theorem Ht(a:Int)(h0:0<=a)(h1:a<4294967296):(bits .and .u32 a 2147483648 != 0)=decide (2147483648<=a):=by
 rw[LV a h0 h1];split<;>simp[*]
def IF(a:Int):Int:=
 if a/8388608%256=255 then(if a%8388608=0 then 4 else 5)else if a/8388608%256=0 then(if a%8388608=0 then 1 else 2)else 3
def Jd(a:Int):Bool:=decide (2139095040<a%2147483648)
theorem Oy(a:Int):Jd a=true↔2139095040<a%2147483648:=by unfold Jd;simp
theorem Oz(a:Int):Jd a=false↔a%2147483648<=2139095040:=by unfold Jd;simp
theorem O8(a:Int)(h:Jd a=true)(h0:0<=a)(h1:a<4294967296):IF a=5:=by
 rw[Oy]at h;unfold IF;rw[if_pos oM,if_neg oM]
theorem O9(a:Int)(h:Jd a=false)(h0:0<=a)(h1:a<4294967296):IF a≠5:=by
 rw[Oz]at h;unfold IF;repeat' split
 all_goals omega
def Cc(a:Int):Int:=if 2147483648<=a then -1-(a-2147483648)else a
def Qj(k:Int):Int:=if k<0 then 2147483648+(-1-k)else k
def Cs(a:Int):Int:=if Jd a then 2143289344 else a
def next(a:Int):Int:=if Jd a then 2143289344 else if a=2139095040 then a else Qj (Cc a+1)
def mk(m:Bool)(e f:Int):Int:=if m then e*8388608+f+2147483648 else e*8388608+f
structure Ty where
 kind:Int
 par:Int
 deriving DecidableEq
structure Sl where
 ty:Ty
 keep:Bool
 bits:Int
 int_:Int
 deriving DecidableEq
structure Aa where
 op:Int
 d:Int
 a:Int
 b:Int
 c:Int
 n:Int
 bits:Int
 deriving DecidableEq
structure Cd where
 sign:List Bt
 regs:List Ty
 slots:List Sl
 list:List Aa
structure Rw where
 d:Int
 a:Int
 b:Int
 c:Int
 n:Int
 deriving DecidableEq
def A4(op:Int):Rw:=
 if op=1 then⟨1,0,0,0,7⟩
 else if op=2 then⟨2,0,0,0,8⟩
 else if op=3 then⟨6,5,0,0,0⟩
 else if 4<=op/\op<=10 then⟨4,5,5,0,0⟩
 else if 11<=op/\op<=14 then⟨4,5,0,0,0⟩
 else if op=15 then⟨4,5,5,5,0⟩
 else if op=16 then⟨1,1,2,0,0⟩
 else if op=17 then⟨1,2,0,0,0⟩
 else if op=18 then⟨2,1,0,0,0⟩
 else if 19<=op/\op<=20 then⟨1,3,0,0,0⟩
 else if op=21\/op=25 then⟨2,2,0,0,0⟩
 else if op=26 then⟨2,2,2,2,0⟩
 else if 22<=op/\op<=28 then⟨2,2,2,0,0⟩
 else if 29<=op/\op<=30 then⟨3,0,0,0,9⟩
 else if op=31 then⟨0,3,0,0,9⟩
 else if op=32 then⟨6,0,0,0,10⟩
 else if op=33 then⟨0,6,0,0,10⟩
 else if op=34 then⟨0,2,0,0,0⟩
 else if op=36 then⟨0,0,0,0,11⟩
 else⟨0,0,0,0,0⟩
def An(op:Int):Bool:=decide (1<=op)&&decide (op<=37)
def DE(op:Int):Bool:=decide (3<=op)&&decide (op<=15)
def BM(op:Int):Bool:=(decide (29<=op)&&decide (op<=33))||DE op
def Ar(n:Int)(k:Nat):Bool:=decide (0<=n)&&decide (n<(k:Int))
def CB(n:Int):Bool:=decide (0<=n)&&decide (n<=2147483647)
def BL(a:Int):Bool:=decide ((if Jd a then 2143289344 else a)=a)
def AE(t:Ty)(n:Nat):Bool:=if t.kind=1\/t.kind=2 then t.par==0 else if t.kind=3 then Ar t.par n else false
def ET(s:Sl):Bool:=if s.ty.kind=2 then s.bits==0&&CB s.int_ else s.int_==0&&BL s.bits
def Bi(s:Sl)(n:Nat):Bool:=AE s.ty n&&ET s
def Au(l:List Ty)(n:Int):Ty:=if Ar n l.length then(l[n.toNat]?).getD ⟨0,0⟩else⟨0,0⟩
def Gw(i:Aa)(r:Rw):Int:=if r.d=0 then i.a else i.d
def Az(l:List Ty)(i:Aa)(r:Rw):Ty:=Au l (Gw i r)
def DH(l:Int)(t m:Ty):Bool:=
 if l=1 then t.kind==1
 else if l=2 then t.kind==2
 else if l=3 then t.kind==3
 else if l=4 then t.kind==1||t.kind==3
 else if l=5 then decide (t=m)||(t.kind==1&&m.kind==3)
 else decide (t=m)
def Af(rs:List Ty)(l n:Int)(m:Ty):Bool:=if l=0 then n==0 else Ar n rs.length&&DH l (Au rs n) m
def CN(ps:List Bt)(n:Int):Int:=((ps[n.toNat]?).map fun p=>p.kind).getD 0
def CJ(ss:List Sl)(n:Int):Ty:=((ss[n.toNat]?).map fun s=>s.ty).getD ⟨0,0⟩
def Fl(c:Cd)(n l:Int)(m:Ty):Bool:=
 if l=8 then CB n
 else if l=9 then n==0||(n==1&&CN c.sign m.par==2)
 else if l=10 then Ar n c.slots.length&&decide (CJ c.slots n=m)
 else if l=11 then Ar n c.sign.length
 else n==0
def BD(c:Cd)(i:Aa)(l:Int)(m:Ty):Bool:=if l=7 then i.n==0&&BL i.bits else i.bits==0&&Fl c i.n l m
def AW(c:Cd)(i:Aa)(r:Rw):Bool:=
 Af c.regs r.d i.d (Az c.regs i r)&&(Af c.regs r.a i.a (Az c.regs i r)&&(Af c.regs r.b i.b (Az c.regs i r)&&(Af c.regs r.c i.c (Az c.regs i r)&&BD c i r.n (Az c.regs i r))))
structure Bk where
 loop:Bool
 par:Int
 ahead:Nat
structure Wk where
 set:List Nat
 opens:List Bk
def AA(s:Wk):Bool:=match s.opens with |b::_=>b.loop|[]=>false
def BE(s:Wk):Int:=match s.opens with |b::_=>b.par|[]=>0
def AD(c:Cd)(s:Wk)(i:Aa)(r:Rw):Bool:=
 if i.op=34\/i.op=36 then !AA s&&decide (s.opens.length<64)
 else if i.op=35 then !s.opens.isEmpty&& !AA s
 else if i.op=37 then AA s
 else !AA s||(BM i.op&&decide (Az c.regs i r=⟨3,BE s⟩))
def A9(i:Aa)(r:Rw):List Int:=(if r.a=0 then [] else [i.a])++((if r.b=0 then [] else [i.b])++(if r.c=0 then [] else [i.c]))
def AZ(s:Wk):Wk:=match s.opens with
 |b::r=>⟨if b.loop then s.set else s.set.take b.ahead,r⟩
 |[]=>s
def Cm(s:Wk)(i:Aa):Wk:=
 if i.op=34\/i.op=36 then⟨s.set,⟨i.op==36,i.n,s.set.length⟩::s.opens⟩else if i.op=35\/i.op=37 then AZ s else s
def CR(s:Wk)(i:Aa)(r:Rw):Wk:=if r.d≠0/\i.d.toNat∉s.set then⟨s.set++[i.d.toNat],s.opens⟩else s
def DM(s:Wk)(i:Aa)(r:Rw):Wk:=CR (Cm s i) i r
def Et(s:Wk)(i:Aa)(r:Rw):Bool:=(A9 i r).all fun n=>decide (n.toNat∈s.set)
def AS(c:Cd)(s:Wk)(i:Aa):Bool:=An i.op&&(AW c i (A4 i.op)&&(AD c s i (A4 i.op)&&Et s i (A4 i.op)))
def As(s:Wk)(i:Aa):Wk:=DM s i (A4 i.op)
def Gg(c:Cd):Wk->Nat->List Aa->Int×Int
 |s,k,[]=>if s.opens.isEmpty then(0,0)else(160,k)
 |s,k,i::r=>if AS c s i then Gg c (As s i) (k+1) r else(160,k)
def Ap(c:Cd):Bool:=c.regs.all fun t=>AE t c.sign.length
def Bn(c:Cd):Bool:=c.slots.all fun s=>Bi s c.sign.length
def BR(c:Cd):Int:=
 if AU c.sign≠0 then AU c.sign
 else if 16384<c.regs.length\/32768<c.list.length then 181
 else if 4096<c.slots.length then 180
 else if Ap c&&Bn c then 0 else 160
def Ah(c:Cd):Int×Int:=if BR c≠0 then(BR c,-1)else Gg c ⟨[],[]⟩ 0 c.list
def PZ:Nat->List Bk->Prop
 |_,[]=>True
 |n,b::r=>b.ahead<=n/\PZ b.ahead r
theorem PZ.mono:∀ {r:List Bk} {n m:Nat},PZ n r->n<=m->PZ m r
 |[],_,_,_,_=>trivial
 |b::r,n,m,h,k=>⟨Nat.le_trans h.1 k,h.2⟩
structure CM(n:Nat)(s:Wk):Prop where
 nodup:s.set.Nodup
 lt:∀x∈s.set,x<n
 opens:PZ s.set.length s.opens
 nest:s.opens.length<=64
theorem CM.start(n:Nat):CM n ⟨[],[]⟩:=⟨List.nodup_nil,fun x h=>absurd h sM,trivial,Nat.zero_le _⟩
theorem CM.leave{n:Nat}{s:Wk}(h:CM n s):CM n (AZ s):=by
 obtain⟨X,O⟩:=s;cases O with
 |nil=>exact h
 |cons b r=>
  obtain⟨h1,h2,⟨h3,h4⟩,h5⟩:=h;simp only[AZ];simp only at h1 h2 h3 h4 h5;split
  ·exact⟨h1,h2,h4.mono h3,by simp at h5 ⊢;omega⟩
  ·refine⟨List.Sublist.nodup (List.take_sublist _ _) h1,fun x hx=>h2 x (List.mem_of_mem_take hx),?_,by simp at h5 ⊢;omega⟩;simp only[List.length_take];rw[Nat.min_eq_left h3];exact h4
theorem CM.turn{n:Nat}{s:Wk}{i:Aa}(h:CM n s)(hm:i.op=34\/i.op=36->s.opens.length<64):CM n (Cm s i):=by
 unfold Cm;split
 ·rename_i e;exact⟨h.nodup,h.lt,⟨Nat.le_refl _,h.opens⟩,by have:=hm e;simp;omega⟩
 ·split
  ·exact h.leave
  ·exact h
theorem CM.add{n:Nat}{s:Wk}{i:Aa}{r:Rw}(h:CM n s)(hd:r.d≠0->i.d.toNat<n):CM n (CR s i r):=by
 unfold CR;split
 ·rename_i e;refine⟨?_,fun x hx=>?_,h.opens.mono sM,h.nest⟩
  ·rw[List.nodup_append];refine⟨h.nodup,sM,fun a ha b hb=>?_⟩;simp at hb;subst hb;exact fun e'=>e.2 (e'▸ha)
  ·rcases List.mem_append.1 hx with hx|hx
   ·exact h.lt x hx
   ·simp at hx;subst hx;exact hd e.1
 ·exact h
theorem Mm:∀ {n:Nat} {l:List Nat},l.Nodup->(∀x∈l,x<n)->l.length<=n:=by
 intro n;induction n with
 |zero=>intro l _ h;cases l with
  |nil=>exact Nat.le_refl _
  |cons a t=>exact absurd (h a sM) (Nat.not_lt_zero _)
 |succ n ih=>
  intro l hd h;have h1:=ih (l:=l.erase n) (hd.erase n) fun x hx=>by
   have h2:=h x (List.mem_of_mem_erase hx);have h3:x≠n:=fun e=>by
    subst e;exact(List.Nodup.not_mem_erase hd) hx
   omega
  have h2:l.length<=(l.erase n).length+1:=by
   rw[List.length_erase];split<;>omega
  omega
theorem CM.len{n:Nat}{s:Wk}(h:CM n s):s.set.length<=n:=Mm h.nodup h.lt
theorem BK{n:Int}{k:Nat}:Ar n k=true↔0<=n/\n<(k:Int):=by unfold Ar;simp
theorem Al{rs:List Ty}{l n:Int}{m:Ty}(h:Af rs l n m=true)(hl:l≠0):0<=n/\n<(rs.length:Int):=by
 unfold Af at h;rw[if_neg hl]at h;simp only[Bool.and_eq_true]at h;exact BK.1 h.1
theorem CF{c:Cd}{i:Aa}{r:Rw}(h:AW c i r=true):Af c.regs r.d i.d (Az c.regs i r)=true:=by
 unfold AW at h;simp only[Bool.and_eq_true]at h;exact h.1
theorem Da{c:Cd}{i:Aa}{r:Rw}(h:AW c i r=true):Af c.regs r.a i.a (Az c.regs i r)=true:=by
 unfold AW at h;simp only[Bool.and_eq_true]at h;exact h.2.1
theorem DU{c:Cd}{i:Aa}{r:Rw}(h:AW c i r=true):Af c.regs r.b i.b (Az c.regs i r)=true:=by
 unfold AW at h;simp only[Bool.and_eq_true]at h;exact h.2.2.1
theorem DV{c:Cd}{i:Aa}{r:Rw}(h:AW c i r=true):Af c.regs r.c i.c (Az c.regs i r)=true:=by
 unfold AW at h;simp only[Bool.and_eq_true]at h;exact h.2.2.2.1
theorem AG{c:Cd}{s:Wk}{i:Aa}(h:AS c s i=true):An i.op=true/\AW c i (A4 i.op)=true/\AD c s i (A4 i.op)=true/\Et s i (A4 i.op)=true:=by
 unfold AS at h;simp only[Bool.and_eq_true]at h;exact h
theorem Eu{c:Cd}{s:Wk}{i:Aa}{r:Rw}(h:AD c s i r=true)(e:i.op=34\/i.op=36):s.opens.length<64:=by
 unfold AD at h;rw[if_pos e]at h;simp only[Bool.and_eq_true,decide_eq_true_eq]at h;exact h.2
theorem CM.step{c:Cd}{s:Wk}{i:Aa}(h:CM c.regs.length s)(t:AS c s i=true):CM c.regs.length (As s i):=by
 obtain⟨_,h2,h3,_⟩:=AG t;refine(h.turn (Eu h3)).add fun hd=>?_;have:=Al (CF h2) hd;omega
theorem Lq(a:Int)(h0:0<=a)(h1:a<4294967296)(w:World):
 Calls prog 87 #[.int .u32 a] w fun e w'=>e=.returned (.tuple #[.bool (decide (2147483648<=a)),.int .i64 (a/8388608%256),.int .i64 (a%8388608)])/\w'=w:=by
 have e1:=Ht a h0 h1;have e2:=Qa (a/8388608) oM oM;have e3:=Pq a h0 h1;go_enter func87,ntmps87;go_wp2
 go_ret3
 exact⟨rfl,rfl⟩
theorem Gt(a:Int)(h0:0<=a)(h1:a<4294967296)(w:World):
 Calls prog 85 #[.int .u32 a] w fun e w'=>e=.returned (.int .i64 (IF a))/\w'=w:=by
 by_cases c1:a/8388608%256=255
 ·by_cases c2:a%8388608=0
  ·have hc:IF a=4:=by unfold IF;rw[if_pos c1,if_pos c2]
   exact Q4
  ·have hc:IF a=5:=by unfold IF;rw[if_pos c1,if_neg c2]
   exact Q4
 ·by_cases c2:a/8388608%256=0
  ·by_cases c3:a%8388608=0
   ·have hc:IF a=1:=by unfold IF;rw[if_neg c1,if_pos c2,if_pos c3]
    exact Q4
   ·have hc:IF a=2:=by unfold IF;rw[if_neg c1,if_pos c2,if_neg c3]
    exact Q4
  ·have hc:IF a=3:=by unfold IF;rw[if_neg c1,if_neg c2]
   exact Q4
theorem KZ(a:Int)(h0:0<=a)(h1:a<4294967296)(hn:Jd a=true)(w:World):
 Calls prog 85 #[.int .u32 a] w fun e w'=>e=.returned (.int .i64 5)/\w'=w:=by
 have:=Gt a h0 h1 w;rwa[O8 a hn h0 h1]at this
theorem KY(a:Int)(h0:0<=a)(h1:a<4294967296)(w:World):
 Calls prog 83 #[.int .u32 a] w fun e w'=>e=.returned (.int .u32 (Cs a))/\w'=w:=by
 cases hn:Jd a
 ·have hc:Cs a=a:=by unfold Cs;simp[hn]
  have h5:(IF a==5)=false:=by have:=O9 a hn h0 h1;simpa using this
  rw[hc];clear hc hn;go_enter func83,ntmps83;go_wp2_with(go_at_call 85;refine(Gt _ h0 h1 _).mono ?_;rintro e w' ⟨rfl,rfl⟩);go_ret;exact⟨rfl,rfl⟩
 ·have hc:Cs a=2143289344:=by unfold Cs;simp[hn]
  rw[hc];clear hc;go_enter func83,ntmps83;go_wp2_with(go_at_call 85;refine(KZ _ h0 h1 hn _).mono ?_;rintro e w' ⟨rfl,rfl⟩);go_ret;exact⟨rfl,rfl⟩
def Du(t:Ty):List Value:=[.int .i64 t.kind,.int .i64 t.par]
def E8(s:Sl):List Value:=[.int .i64 s.ty.kind,.int .i64 s.ty.par,.bool s.keep,.int .u32 s.bits,.int .i64 s.int_]
def Bf(i:Aa):List Value:=[.int .i64 i.op,.int .i64 i.d,.int .i64 i.a,.int .i64 i.b,.int .i64 i.c,.int .i64 i.n,.int .u32 i.bits]
theorem Ec(t:Ty):(Du t).length=2:=rfl
theorem E9(t:Sl):(E8 t).length=5:=rfl
theorem Bz(t:Aa):(Bf t).length=7:=rfl
theorem D4(t:Bt):(AP t).length=3:=rfl
def CP(t:Ty):Value:=.agg #[.int .i64 t.kind,.int .i64 t.par]
def Cg(r:Rw):Value:=.agg #[.int .i64 r.d,.int .i64 r.a,.int .i64 r.b,.int .i64 r.c,.int .i64 r.n]
theorem kc{w w':World}(k:Below w.heap.size w w'){a:Addr}{v:Value}(h:w.cell? a=some v):w'.cell? a=some v:=(k.cell (Ab h)).trans h
theorem kf{w w':World}(k:Below w.heap.size w w'){a:Addr}{v:Value}(h:w.cell? a=some v)(f:w.frozen? a=false):w'.frozen? a=false:=(k.frozen (Ab h)).trans f
def Ai(w:World)(b o:Nat)(cs:List Value):Prop:=∀j (h:j<cs.length),w.cell? ⟨b,o+j,none⟩=some cs[j]
theorem Ai.below{w w':World}{b o:Nat}{cs:List Value}(h:Ai w b o cs)(k:Below w.heap.size w w'):Ai w' b o cs:=fun j hj=>(k.cell (Ab (h j hj))).trans (h j hj)
theorem Ai.at{w:World}{b o:Nat}{cs:List Value}(h:Ai w b o cs)(j:Nat){v:Value}(e:cs[j]? =some v):w.cell? ⟨b,o+j,none⟩=some v:=by
 obtain⟨hj,e⟩:=List.getElem?_eq_some_iff.1 e;rw[h j hj,e]
theorem Ai.of_block{w w':World}{b o:Nat}{cs:List Value}(h:Ai w b o cs)(e:w'.heap[b]? =w.heap[b]?):Ai w' b o cs:=fun j hj=>(World.cell?_of_block e).trans (h j hj)
def AR{α:Type}(k:Nat)(f:α->List Value)(w:World)(v:Value)(l:List α):Prop:=
 ∃p c,v=.slice p l.length c/\(l=[]\/∃b o,p=some ⟨b,o,none⟩/\∀i (h:i<l.length),Ai w b (o+i*k) (f l[i]))
theorem AR.below{α:Type}{k:Nat}{f:α->List Value}{w w':World}{v:Value}{l:List α}(h:AR k f w v l)(q:Below w.heap.size w w'):AR k f w' v l:=by
 obtain⟨p,c,hv,h⟩:=h;exact⟨p,c,hv,h.imp id fun⟨b,o,hp,h⟩=>⟨b,o,hp,fun i hi=>(h i hi).below q⟩⟩
theorem AR.at{α:Type}{k:Nat}{f:α->List Value}{w:World}{p:Option Addr}{n c:Nat}{l:List α}(h:AR k f w (.slice p n c) l){i:Nat}(hi:i<l.length):∃b o,p=some ⟨b,o,none⟩/\Ai w b (o+i*k) (f l[i]):=by
 obtain⟨p',c',hv,h⟩:=h;simp only[Value.slice.injEq]at hv;obtain⟨rfl,rfl,rfl⟩:=hv;rcases h with h|⟨b,o,hp,h⟩
 ·rw[h]at hi;exact absurd hi (Nat.not_lt_zero _)
 ·exact⟨b,o,hp,h i hi⟩
theorem AR.rd{w:World}{v:Value}{l:List Bt}(h:AR 3 AP w v l):Rd w v l:=by
 obtain⟨p,c,hv,h⟩:=h;exact⟨p,c,hv,h.imp id fun⟨b,o,hp,h⟩=>⟨b,o,hp,fun i hi=>⟨(h i hi).at 0 rfl,(h i hi).at 1 rfl,(h i hi).at 2 rfl⟩⟩⟩
structure BP(w:World)(v0 v1 v2 v3:Value)(c:Cd):Prop where
 sign:AR 3 AP w v0 c.sign
 regs:AR 2 Du w v1 c.regs
 slots:AR 5 E8 w v2 c.slots
 list:AR 7 Bf w v3 c.list
theorem BP.below{w w':World}{v0 v1 v2 v3:Value}{c:Cd}(h:BP w v0 v1 v2 v3 c)(k:Below w.heap.size w w'):BP w' v0 v1 v2 v3 c:=⟨h.sign.below k,h.regs.below k,h.slots.below k,h.list.below k⟩
def BC(w:World)(C:Nat)(v0 v1 v2 v3:Value)(c:Cd):Prop:=Ai w C 0 [v0,v1,v2,v3]/\BP w v0 v1 v2 v3 c
theorem BC.below{w w':World}{C:Nat}{v0 v1 v2 v3:Value}{c:Cd}(h:BC w C v0 v1 v2 v3 c)(k:Below w.heap.size w w'):BC w' C v0 v1 v2 v3 c:=⟨h.1.below k,h.2.below k⟩
structure Ba(c:Cd):Prop where
 signL:c.sign.length<=140737488351232
 names:∀p∈c.sign,p.name.size<=140737488351232
 regsL:c.regs.length<=140737488351232
 slotsL:c.slots.length<=140737488351232
 listL:c.list.length<=140737488351232
 sbits:∀s∈c.slots,0<=s.bits/\s.bits<4294967296
 ibits:∀i∈c.list,0<=i.bits/\i.bits<4294967296
theorem Cb(n:Int)(k:Nat)(w:World):Calls prog 74 #[.int .i64 n,.int .i64 k] w fun e w'=>e=.returned (.bool (Ar n k))/\w'=w:=by
 unfold Ar;by_cases h:0<=n
 all_goals
  go_enter func74,ntmps74;exact QD
theorem Fm(n:Int)(w:World):Calls prog 75 #[.int .i64 n] w fun e w'=>e=.returned (.bool (CB n))/\w'=w:=by
 unfold CB;by_cases h:0<=n
 all_goals
  go_enter func75,ntmps75;exact QD
theorem FL(a:Int)(h0:0<=a)(h1:a<4294967296)(w:World):Calls prog 76 #[.int .u32 a] w fun e w'=>e=.returned (.bool (BL a))/\w'=w:=by
 have hc:BL a=(Cs a==a):=by unfold BL Cs;cases Jd a<;>rw[Bool.eq_iff_iff]<;>simp
 rw[hc];have HK:Hid (∀w,Calls prog 83 #[.int .u32 a] w fun e w'=>e=.returned (.int .u32 (Cs a))/\w'=w):=KY a h0 h1;clear hc;obtain⟨x,hx⟩:∃x,Cs a=x:=⟨_,rfl⟩
 rw[hx]at HK ⊢;clear hx;go_enter func76,ntmps76;go_wp2_with(go_at_call 83;refine(HK.out _).mono ?_;rintro e w1 ⟨rfl,rfl⟩);go_ret;exact⟨rfl,rfl⟩
theorem Eh(t:Ty)(p:Option Addr)(n c:Nat)(hn:n<=140737488351232)(w:World):Calls prog 56 #[CP t,.slice p n c] w fun e w'=>e=.returned (.bool (AE t n))/\Below w.heap.size w w':=by
 obtain⟨K,P⟩:=t;have HK:Hid (∀w,Calls prog 74 #[.int .i64 P,.int .i64 n] w fun e w'=>e=.returned (.bool (Ar P n))/\w'=w):=Cb P n;unfold AE CP;simp only;by_cases h1:K=1
 ·subst h1;rw[if_pos (Or.inl rfl)];exact R7
 ·by_cases h2:K=2
  ·subst h2;rw[if_pos (Or.inr rfl)];exact R7
  ·rw[if_neg (fun e=>e.elim h1 h2)];have h1':(K==1)=false:=by simpa using h1
   have h2':(K==2)=false:=by simpa using h2
   by_cases h3:K=3
   ·subst h3;rw[if_pos rfl];go_enter func56,ntmps56;exact SU
   ·rw[if_neg h3];have h3':(K==3)=false:=by simpa using h3
    clear h1 h2 h3;exact R7
def LQ(s:Sl):Value:=.agg #[.int .i64 s.ty.kind,.int .i64 s.ty.par,.bool s.keep,.int .u32 s.bits,.int .i64 s.int_]
theorem IJ(s:Sl)(h0:0<=s.bits)(h1:s.bits<4294967296)(w:World):Calls prog 57 #[LQ s] w fun e w'=>e=.returned (.bool (ET s))/\Below w.heap.size w w':=by
 have HK:Hid (∀w,Calls prog 76 #[.int .u32 s.bits] w fun e w'=>e=.returned (.bool (BL s.bits))/\w'=w):=FL s.bits h0 h1;have HL:Hid (∀w,Calls prog 75 #[.int .i64 s.int_] w fun e w'=>e=.returned (.bool (CB s.int_))/\w'=w):=Fm s.int_;obtain⟨⟨K,P⟩,Q,B,I⟩:=s;unfold ET LQ;simp only at HK HL h0 h1 ⊢;obtain⟨X,hX⟩:∃X,BL B=X:=⟨_,rfl⟩
 obtain⟨Y,hY⟩:∃Y,CB I=Y:=⟨_,rfl⟩
 rw[hX]at HK ⊢;rw[hY]at HL ⊢;clear hX hY;by_cases h2:K=2
 ·subst h2;rw[if_pos rfl];cases hb:(B==0)
  all_goals
   go_enter func57,ntmps57;go_wp2_with(go_at_call 75;refine(HL.out _).mono ?_;rintro e w1 ⟨rfl,rfl⟩);go_ret;exact⟨A8 (by simp[hb]),A0 _ _⟩
 ·rw[if_neg h2];have h2':(K==2)=false:=by simpa using h2
  clear h2;cases hb:(I==0)
  all_goals
   go_enter func57,ntmps57;go_wp2_with(go_at_call 76;refine(HK.out _).mono ?_;rintro e w1 ⟨rfl,rfl⟩);go_ret;exact⟨A8 (by simp[hb]),A0 _ _⟩
theorem NW(K P L Q:Int):decide ((⟨K,P⟩:Ty)=⟨L,Q⟩)=(K==L&&P==Q):=by
 rw[Bool.eq_iff_iff];simp
theorem Lm(l:Int)(t m:Ty)(w:World):Calls prog 77 #[.int .i64 l,CP t,CP m] w fun e w'=>e=.returned (.bool (DH l t m))/\Below w.heap.size w w':=by
 obtain⟨K,P⟩:=t;obtain⟨L,Q⟩:=m;unfold DH CP;simp only[NW];by_cases h1:l=1
 ·subst h1;rw[if_pos rfl];go_enter func77,ntmps77;go_wp2;go_ret;exact O1
 rw[if_neg h1];by_cases h2:l=2
 ·subst h2;rw[if_pos rfl];clear h1;go_enter func77,ntmps77;go_wp2;go_ret;exact O1
 rw[if_neg h2];by_cases h3:l=3
 ·subst h3;rw[if_pos rfl];clear h1 h2;go_enter func77,ntmps77;go_wp2;go_ret;exact O1
 rw[if_neg h3];by_cases h4:l=4
 ·subst h4;rw[if_pos rfl];clear h1 h2 h3;cases hk:(K==1)
  all_goals
   go_enter func77,ntmps77;go_wp2;go_ret;exact⟨A8 (by simp[hk]),bel (A0 _ _) (A0 _ _)⟩
 rw[if_neg h4];by_cases h5:l=5
 ·subst h5;rw[if_pos rfl];clear h1 h2 h3 h4;cases hk:(K==1)<;>cases hl:(K==L)<;>cases hq:(P==Q)
  all_goals
   go_enter func77,ntmps77;go_wp2;go_ret;exact⟨A8 (by simp[hk,hl,hq]),bel (A0 _ _) (A0 _ _)⟩
 rw[if_neg h5];have h1':(l==1)=false:=by simpa using h1
 have h2':(l==2)=false:=by simpa using h2
 have h3':(l==3)=false:=by simpa using h3
 have h4':(l==4)=false:=by simpa using h4
 have h5':(l==5)=false:=by simpa using h5
 clear h1 h2 h3 h4 h5;go_enter func77,ntmps77;go_wp2
 all_goals
  go_ret;exact⟨A8 (by simp[*]),bel (A0 _ _) (A0 _ _)⟩
theorem Dj{l:List Ty}{n:Int}{k:Nat}(h:n=(k:Int))(hk:k<l.length):Au l n=l[k]:=by
 subst h;unfold Au;rw[if_pos (BK.2 ⟨oM,oM⟩),Int.toNat_natCast,List.getElem?_eq_getElem hk];rfl
theorem Cw{n:Int}{k:Nat}(h:Ar n k=true):∃m:Nat,n=(m:Int)/\m<k:=by
 obtain⟨h0,h1⟩:=BK.1 h;exact⟨n.toNat,oM,oM⟩
theorem BG(C:Nat)(v0 v1 v2 v3:Value)(c:Cd)(hk:Ba c)(l n:Int)(m:Ty)(w:World)(hc:BC w C v0 v1 v2 v3 c):
 Calls prog 60 #[.pointer (some ⟨C,0,none⟩),.int .i64 l,.int .i64 n,CP m] w fun e w'=>e=.returned (.bool (Af c.regs l n m))/\Below w.heap.size w w':=by
 unfold Af;by_cases h0:l=0
 ·subst h0;rw[if_pos rfl];unfold CP;go_enter func60,ntmps60;go_wp2;go_ret;exact⟨rfl,A0 _ _⟩
 rw[if_neg h0];have h0':(l==0)=false:=by simpa using h0
 clear h0;have HB:=hk.regsL;have K1:=Cb n c.regs.length;obtain⟨hcc,hcv⟩:=hc;have c1:=hcc.at 1 rfl;rw[Nat.zero_add]at c1;have hr:=hcv.regs;obtain⟨p,q,rfl,hrr⟩:=hcv.regs;have HN:Hid (c.regs.length=c.regs.length):=rfl;obtain⟨X,hX⟩:∃X,Ar n c.regs.length=X:=⟨_,rfl⟩
 simp only[hX]at K1;rw[hX];have hC:=Ab c1;simp only at hC;cases X
 ·clear hr hrr hcc hcv;obtain⟨N,hN⟩:∃N,c.regs.length=N:=⟨_,rfl⟩
  rw[hN]at K1 c1 HB;have HK:Hid (∀w,Calls prog 74 #[.int .i64 n,.int .i64 N] w fun e w'=>e=.returned (.bool false)/\w'=w):=K1;clear hN K1 hX HN;obtain⟨A,B⟩:=m;unfold CP;go_enter func60,ntmps60;go_wp2;have hC':C≠w.heap.size:=oM;refine rG (fun v=>v.cell? ⟨C,1,none⟩=some (.slice p N q)) fun hHeld=>?_;exact S7
 ·obtain⟨k,hnk,hkl⟩:=Cw hX;rw[Dj hnk hkl];have hti:c.regs[k]=c.regs[k]:=rfl;obtain⟨b,o,hp,hx⟩:=hr.at hkl;subst hp;subst hnk;have x0:=hx.at 0 rfl;have x1:=hx.at 1 rfl;rw[Nat.add_zero]at x0;have hbl:=Ab x0;simp only at hbl;have K2:=Lm l c.regs[k] m;obtain⟨T,hT⟩:∃T,c.regs[k]=T:=⟨_,rfl⟩
  rw[hT]at x0 x1 K2 ⊢;obtain⟨N,hN⟩:∃N,c.regs.length=N:=⟨_,rfl⟩
  rw[hN]at K1 c1 HB hkl;have HK:Hid (∀w,Calls prog 74 #[.int .i64 (k:Int),.int .i64 N] w fun e w'=>e=.returned (.bool true)/\w'=w):=K1;clear hN K1 hX HN hr hrr hcc hcv hx hti hT;obtain⟨A,B⟩:=m;obtain⟨D,E⟩:=T;unfold CP at K2 ⊢;simp only at x0 x1 K2 ⊢;obtain⟨Y,hY⟩:∃Y,DH l ⟨D,E⟩ ⟨A,B⟩=Y:=⟨_,rfl⟩
  rw[hY]at K2 ⊢;have HM:Hid (∀w,Calls prog 77 #[.int .i64 l,.agg #[.int .i64 D,.int .i64 E],.agg #[.int .i64 A,.int .i64 B]] w fun e w'=>e=.returned (.bool Y)/\Below w.heap.size w w'):=K2;clear K2 hY;have i1:(0:Int)<=(k:Int):=oM;have i2:(k:Int)<(N:Int):=oM;have hC':C≠w.heap.size:=oM;have hb':b≠w.heap.size:=oM;have HC:Hid (∀v,Below (w.alloc (.cells #[.int .i64 A,.int .i64 B] 50)).heap.size (w.alloc (.cells #[.int .i64 A,.int .i64 B] 50)) v->v.cell? ⟨C,1,none⟩=some (.slice (some ⟨b,o,none⟩) N q)/\v.cell? ⟨b,o+k*2,none⟩=some (.int .i64 D)/\v.cell? ⟨b,o+k*2+1,none⟩=some (.int .i64 E)/\v.cell? ⟨w.heap.size,0,none⟩=some (.int .i64 A)/\v.cell? ⟨w.heap.size,1,none⟩=some (.int .i64 B)):=
   fun v hv=>⟨kc hv (kc (A0 _ _) c1),kc hv (kc (A0 _ _) x0),kc hv (kc (A0 _ _) x1),kc hv sG,kc hv sG⟩
  go_enter func60,ntmps60;go_wp2;refine rG (fun v=>v.cell? ⟨C,1,none⟩=some (.slice (some ⟨b,o,none⟩) N q)/\v.cell? ⟨b,o+k*2,none⟩=some (.int .i64 D)/\v.cell? ⟨b,o+k*2+1,none⟩=some (.int .i64 E)/\v.cell? ⟨w.heap.size,0,none⟩=some (.int .i64 A)/\v.cell? ⟨w.heap.size,1,none⟩=some (.int .i64 B)) fun hHeld=>?_;refine Tf 0 1 2 3 4 5 ?_;clear hHeld;refine Ax 6 fun K hK=>?_;go_simp;(go_at_call 74;refine(HK.out _).mono ?_;rintro e w1 ⟨rfl,rfl⟩);try(go_wp2_with fail)
  refine Aw hK fun hHeld=>?_;clear hK K;refine Tf 7 8 9 10 11 12 ?_;refine Tc 13 14 15 ?_;refine Bw 16 ?_;clear hHeld;refine Ax 17 fun K hK=>?_;go_simp;(go_at_call 77;refine(HM.out _).mono ?_;rintro e w1 ⟨rfl,hb1⟩;have HB1:=bel (Ae _) hb1;obtain⟨y0,y1,y2,y3,y4⟩:=HC.out w1 HB1);try(go_wp2_with fail)
  refine Aw hK fun hHeld=>?_;clear hK K;refine Tb 18 19 ?_;refine wpAnyH_done kR ?_ _;go_wp2;go_ret;exact⟨sM,bel (A0 _ _) HB1⟩
theorem Gj(C:Nat)(p:Option Addr)(N q:Nat)(l:List Ty)(b o:Nat)(i:Aa)(r:Rw)(w:World)(hN:l.length=N)(c1:w.cell? ⟨C,1,none⟩=some (.slice p N q))(hr:AR 2 Du w (.slice p N q) l)(hB:N<=140737488351232)(hi:Ai w b o (Bf i)):
 Calls prog 58 #[.pointer (some ⟨C,0,none⟩),.pointer (some ⟨b,o,none⟩),Cg r] w fun e w'=>e=.returned (CP (Az l i r))/\Below w.heap.size w w':=by
 unfold Az Gw;have e1:=hi.at 1 rfl;have e2:=hi.at 2 rfl;have hC:=Ab c1;have hb:=Ab e1;simp only at hC hb;have n1:C≠w.heap.size:=oM;have n2:C≠w.heap.size+1:=oM;have n3:b≠w.heap.size:=oM;have n4:b≠w.heap.size+1:=oM;clear hi hC hb;obtain⟨D,A,B,X,Y⟩:=r;unfold Cg;simp only;have HA:Hid (∀a v,w.cell? a=some v->((w.alloc (.cells #[.int .i64 D,.int .i64 A,.int .i64 B,.int .i64 X,.int .i64 Y] 97)).alloc (.cells #[.int .i64 0,.int .i64 0] 50)).cell? a=some v):=fun a v h=>kc (A0 _ _) (kc (A0 _ _) h);obtain⟨x,hx⟩:∃x,(if D=0 then i.a else i.d)=x:=⟨_,rfl⟩
 rw[hx];have K1:=Cb x N;have HX:Hid ((D=0/\x=i.a)\/(D≠0/\x=i.d)):=by
  show _\/_;by_cases h:D=0
  ·rw[if_pos h]at hx;exact .inl ⟨h,hx.symm⟩
  ·rw[if_neg h]at hx;exact .inr ⟨h,hx.symm⟩
 clear hx;obtain⟨P,hP⟩:∃P,Ar x N=P:=⟨_,rfl⟩
 simp only[hP]at K1;have HK:Hid (∀w,Calls prog 74 #[.int .i64 x,.int .i64 N] w fun e w'=>e=.returned (.bool P)/\w'=w):=K1;clear K1;cases P
 ·have HT:Hid (Au l x=⟨0,0⟩):=by show _=_;unfold Au;rw[hN,hP];rfl
  clear hP hr;rcases HX.out with⟨rfl,rfl⟩|⟨hD,rfl⟩
  ·clear HX;have f1:=HA.out _ _ e1;have f2:=HA.out _ _ e2;have f3:=HA.out _ _ c1;exact Qu
  ·clear HX;have hD':(D==0)=false:=by simpa using hD
   clear hD;have f1:=HA.out _ _ e1;have f2:=HA.out _ _ e2;have f3:=HA.out _ _ c1;exact Qu
 ·obtain⟨k,hxk,hk⟩:=Cw hP;have hkl:k<l.length:=oM;have HT:Hid (Au l x=l[k]):=Dj hxk hkl;obtain⟨g,u,hp,hx⟩:=hr.at hkl;subst hp;have x0:=hx.at 0 rfl;have x1:=hx.at 1 rfl;rw[Nat.add_zero]at x0;obtain⟨T,hT⟩:∃T,l[k]=T:=⟨_,rfl⟩
  rw[hT]at x0 x1 HT;obtain⟨E,G⟩:=T;simp only at x0 x1;have hg:=Ab x0;simp only at hg;have n5:g≠w.heap.size:=oM;have n6:g≠w.heap.size+1:=oM;have i1:(0:Int)<=(k:Int):=oM;have i2:(k:Int)<(N:Int):=oM;clear hP hr hx hT hg hN hkl;rcases HX.out with⟨rfl,hv⟩|⟨hD,hv⟩
  ·clear HX;rw[←hv,hxk]at e2;rw[hxk]at HK HT ⊢;clear hv hxk;have f1:=HA.out _ _ e1;have f2:=HA.out _ _ e2;have f3:=HA.out _ _ c1;have f4:=HA.out _ _ x0;have f5:=HA.out _ _ x1;exact Qu
  ·clear HX;have hD':(D==0)=false:=by simpa using hD
   rw[←hv,hxk]at e1;rw[hxk]at HK HT ⊢;clear hD hv hxk;have f1:=HA.out _ _ e1;have f2:=HA.out _ _ e2;have f3:=HA.out _ _ c1;have f4:=HA.out _ _ x0;have f5:=HA.out _ _ x1;exact Qu
theorem Ez(C:Nat)(v0 v1 v2 v3:Value)(c:Cd)(hk:Ba c)(b o:Nat)(i:Aa)(r:Rw)(w:World)(hc:BC w C v0 v1 v2 v3 c)(hi:Ai w b o (Bf i)):
 Calls prog 58 #[.pointer (some ⟨C,0,none⟩),.pointer (some ⟨b,o,none⟩),Cg r] w fun e w'=>e=.returned (CP (Az c.regs i r))/\Below w.heap.size w w':=by
 obtain⟨hcc,hcv⟩:=hc;have c1:=hcc.at 1 rfl;rw[Nat.zero_add]at c1;have hr:=hcv.regs;obtain⟨p,q,rfl,hrr⟩:=hcv.regs;exact Gj C p _ q c.regs b o i r w rfl c1 hr hk.regsL hi

end Go.Proofs.Ytnbccaicijcklaa
