import Derived.WalkKit
import Derived.WalkSpells
import Derived.Test.YtjlpkjblkllfbaaGreatDoorOwn1
namespace Go.Proofs.YtjlpkjblkllfbaaGreatDoor
open Go.RowKit Go.Proofs.Tryz
set_option linter.all false
set_option maxRecDepth 100000
set_option maxHeartbeats 16000000
theorem GD(a:Int)(k:Nat)(hk:k<32)(h0:0<=a)(h1:a<4294967296):bits .and .u32 a ((2^k-1:Nat):Int)=a%((2^k:Nat):Int):=by
 have hp:2^k<2^32:=Nat.pow_lt_pow_right oM hk;have hq:0<2^k:=Nat.two_pow_pos k;obtain⟨n,rfl⟩:=Int.eq_ofNat_of_zero_le h0;rw[u32_and _ _ h0 h1 oM oM,Int.toNat_natCast,Int.toNat_natCast,Nat.and_two_pow_sub_one_eq_mod];rfl
theorem Ua(a:Int)(h0:0<=a)(h1:a<4294967296):bits .and .u32 a 8388607=a%8388608:=GD a 23 oM h0 h1
theorem Vl(a:Int)(h0:0<=a)(h1:a<4294967296):bits .and .u32 a 255=a%256:=GD a 8 oM h0 h1
theorem G8(a:Int)(h0:0<=a)(h1:a<4294967296):bits .and .u32 a 15=a%16:=GD a 4 oM h0 h1
theorem Pf(a:Int)(h0:0<=a)(h1:a<4294967296):bits .and .u32 a 2147483648=if 2147483648<=a then 2147483648 else 0:=by
 rw[u32_and a _ h0 h1 oM oM,show(2147483648:Int).toNat=2^31 from rfl,nat_bit];split<;>omega
theorem JB(a:Int)(h0:0<=a)(h1:a<4294967296):(bits .and .u32 a 2147483648 != 0)=decide (2147483648<=a):=by
 rw[Pf a h0 h1];split<;>simp[*]
theorem SB(k:Nat)(x y:Int)(h0:0<=x)(h1:x<4294967296)(hx:x%((2^k:Nat):Int)=0)(hy0:0<=y)(hy:y<((2^k:Nat):Int))(hy1:y<4294967296):
 bits .or .u32 x y=x+y:=by
 obtain⟨n,rfl⟩:=Int.eq_ofNat_of_zero_le h0;obtain⟨m,rfl⟩:=Int.eq_ofNat_of_zero_le hy0;rw[u32_or _ _ h0 h1 hy0 hy1,nat_join k _ _ (by exact_mod_cast hx) (by exact_mod_cast hy)];rfl
theorem Q8(x d:Int)(h0:0<=x)(h1:x<4294967296)(hx:x%16=0)(hd0:0<=d)(hd:d<16):bits .or .u32 x d=x+d:=
 SB 4 _ _ h0 h1 (by simpa using hx) hd0 (by simpa using hd) oM
def KA(a:Int):Int:=
 if a/8388608%256=255 then(if a%8388608=0 then 4 else 5)else if a/8388608%256=0 then(if a%8388608=0 then 1 else 2)else 3
def Lv(a:Int):Bool:=decide (2139095040<a%2147483648)
theorem Sm(a:Int):Lv a=true↔2139095040<a%2147483648:=by unfold Lv;simp
theorem Sn(a:Int):Lv a=false↔a%2147483648<=2139095040:=by unfold Lv;simp
theorem RW(a:Int)(h:Lv a=true)(h0:0<=a)(h1:a<4294967296):KA a=5:=by
 rw[Sm]at h;unfold KA;rw[if_pos oM,if_neg oM]
theorem RX(a:Int)(h:Lv a=false)(h0:0<=a)(h1:a<4294967296):KA a≠5:=by
 rw[Sn]at h;unfold KA;repeat' split
 all_goals omega
def EW(a:Int):Int:=if 2147483648<=a then -1-(a-2147483648)else a
def Vy(k:Int):Int:=if k<0 then 2147483648+(-1-k)else k
def canon(a:Int):Int:=if Lv a then 2143289344 else a
def next(a:Int):Int:=if Lv a then 2143289344 else if a=2139095040 then a else Vy (EW a+1)
def mk(m:Bool)(e f:Int):Int:=if m then e*8388608+f+2147483648 else e*8388608+f
structure Ty where
 kind:Int
 par:Int
 deriving DecidableEq
structure Sl where
 ty:Ty
 keep:Bool
 bits:Int
 int_:Int
 deriving DecidableEq
structure Ax where
 op:Int
 d:Int
 a:Int
 b:Int
 c:Int
 n:Int
 bits:Int
 deriving DecidableEq
structure Cd where
 sign:List Bc
 regs:List Ty
 slots:List Sl
 list:List Ax
structure Rw where
 d:Int
 a:Int
 b:Int
 c:Int
 n:Int
 deriving DecidableEq
def A5(op:Int):Rw:=
 if op=1 then⟨1,0,0,0,7⟩
 else if op=2 then⟨2,0,0,0,8⟩
 else if op=3 then⟨6,5,0,0,0⟩
 else if 4<=op/\op<=10 then⟨4,5,5,0,0⟩
 else if 11<=op/\op<=14 then⟨4,5,0,0,0⟩
 else if op=15 then⟨4,5,5,5,0⟩
 else if op=16 then⟨1,1,2,0,0⟩
 else if op=17 then⟨1,2,0,0,0⟩
 else if op=18 then⟨2,1,0,0,0⟩
 else if 19<=op/\op<=20 then⟨1,3,0,0,0⟩
 else if op=21\/op=25 then⟨2,2,0,0,0⟩
 else if op=26 then⟨2,2,2,2,0⟩
 else if 22<=op/\op<=28 then⟨2,2,2,0,0⟩
 else if 29<=op/\op<=30 then⟨3,0,0,0,9⟩
 else if op=31 then⟨0,3,0,0,9⟩
 else if op=32 then⟨6,0,0,0,10⟩
 else if op=33 then⟨0,6,0,0,10⟩
 else if op=34 then⟨0,2,0,0,0⟩
 else if op=36 then⟨0,0,0,0,11⟩
 else⟨0,0,0,0,0⟩
def AI(op:Int):Bool:=decide (1<=op)&&decide (op<=37)
def E9(op:Int):Bool:=decide (3<=op)&&decide (op<=15)
def C5(op:Int):Bool:=(decide (29<=op)&&decide (op<=33))||E9 op
def Am(n:Int)(k:Nat):Bool:=decide (0<=n)&&decide (n<(k:Int))
def wholeB(n:Int):Bool:=decide (0<=n)&&decide (n<=2147483647)
def C3(a:Int):Bool:=decide ((if Lv a then 2143289344 else a)=a)
def AG(t:Ty)(n:Nat):Bool:=if t.kind=1\/t.kind=2 then t.par==0 else if t.kind=3 then Am t.par n else false
def ES(s:Sl):Bool:=if s.ty.kind=2 then s.bits==0&&wholeB s.int_ else s.int_==0&&C3 s.bits
def Bb(s:Sl)(n:Nat):Bool:=AG s.ty n&&ES s
def Au(l:List Ty)(n:Int):Ty:=if Am n l.length then(l[n.toNat]?).getD ⟨0,0⟩else⟨0,0⟩
def JT(i:Ax)(r:Rw):Int:=if r.d=0 then i.a else i.d
def AF(l:List Ty)(i:Ax)(r:Rw):Ty:=Au l (JT i r)
def Ed(l:Int)(t m:Ty):Bool:=
 if l=1 then t.kind==1
 else if l=2 then t.kind==2
 else if l=3 then t.kind==3
 else if l=4 then t.kind==1||t.kind==3
 else if l=5 then decide (t=m)||(t.kind==1&&m.kind==3)
 else decide (t=m)
def Ae(rs:List Ty)(l n:Int)(m:Ty):Bool:=if l=0 then n==0 else Am n rs.length&&Ed l (Au rs n) m
def Dh(ps:List Bc)(n:Int):Int:=((ps[n.toNat]?).map fun p=>p.kind).getD 0
def El(ss:List Sl)(n:Int):Ty:=((ss[n.toNat]?).map fun s=>s.ty).getD ⟨0,0⟩
def I9(c:Cd)(n l:Int)(m:Ty):Bool:=
 if l=8 then wholeB n
 else if l=9 then n==0||(n==1&&Dh c.sign m.par==2)
 else if l=10 then Am n c.slots.length&&decide (El c.slots n=m)
 else if l=11 then Am n c.sign.length
 else n==0
def BO(c:Cd)(i:Ax)(l:Int)(m:Ty):Bool:=if l=7 then i.n==0&&C3 i.bits else i.bits==0&&I9 c i.n l m
def Bm(c:Cd)(i:Ax)(r:Rw):Bool:=
 Ae c.regs r.d i.d (AF c.regs i r)&&(Ae c.regs r.a i.a (AF c.regs i r)&&(Ae c.regs r.b i.b (AF c.regs i r)&&(Ae c.regs r.c i.c (AF c.regs i r)&&BO c i r.n (AF c.regs i r))))
structure Bk where
 loop:Bool
 par:Int
 ahead:Nat
structure Wk where
 set:List Nat
 opens:List Bk
def AP(s:Wk):Bool:=match s.opens with |b::_=>b.loop|[]=>false
def C9(s:Wk):Int:=match s.opens with |b::_=>b.par|[]=>0
def AO(c:Cd)(s:Wk)(i:Ax)(r:Rw):Bool:=
 if i.op=34\/i.op=36 then !AP s&&decide (s.opens.length<64)
 else if i.op=35 then !s.opens.isEmpty&& !AP s
 else if i.op=37 then AP s
 else !AP s||(C5 i.op&&decide (AF c.regs i r=⟨3,C9 s⟩))
def Ay(i:Ax)(r:Rw):List Int:=(if r.a=0 then [] else [i.a])++((if r.b=0 then [] else [i.b])++(if r.c=0 then [] else [i.c]))
def B9(s:Wk):Wk:=match s.opens with
 |b::r=>⟨if b.loop then s.set else s.set.take b.ahead,r⟩
 |[]=>s
def Fw(s:Wk)(i:Ax):Wk:=
 if i.op=34\/i.op=36 then⟨s.set,⟨i.op==36,i.n,s.set.length⟩::s.opens⟩else if i.op=35\/i.op=37 then B9 s else s
def Jz(s:Wk)(i:Ax)(r:Rw):Wk:=if r.d≠0/\i.d.toNat∉s.set then⟨s.set++[i.d.toNat],s.opens⟩else s
def GW(s:Wk)(i:Ax)(r:Rw):Wk:=Jz (Fw s i) i r
def FU(s:Wk)(i:Ax)(r:Rw):Bool:=(Ay i r).all fun n=>decide (n.toNat∈s.set)
def Bd(c:Cd)(s:Wk)(i:Ax):Bool:=AI i.op&&(Bm c i (A5 i.op)&&(AO c s i (A5 i.op)&&FU s i (A5 i.op)))
def AM(s:Wk)(i:Ax):Wk:=GW s i (A5 i.op)
def Hq(c:Cd):Wk->Nat->List Ax->Int×Int
 |s,k,[]=>if s.opens.isEmpty then(0,0)else(160,k)
 |s,k,i::r=>if Bd c s i then Hq c (AM s i) (k+1) r else(160,k)
def Ap(c:Cd):Bool:=c.regs.all fun t=>AG t c.sign.length
def Bj(c:Cd):Bool:=c.slots.all fun s=>Bb s c.sign.length
def C7(c:Cd):Int:=
 if AC c.sign≠0 then AC c.sign
 else if 16384<c.regs.length\/32768<c.list.length then 181
 else if 4096<c.slots.length then 180
 else if Ap c&&Bj c then 0 else 160
def AH(c:Cd):Int×Int:=if C7 c≠0 then(C7 c,-1)else Hq c ⟨[],[]⟩ 0 c.list
def Vc:Nat->List Bk->Prop
 |_,[]=>True
 |n,b::r=>b.ahead<=n/\Vc b.ahead r
theorem Vc.mono:∀ {r:List Bk} {n m:Nat},Vc n r->n<=m->Vc m r
 |[],_,_,_,_=>trivial
 |b::r,n,m,h,k=>⟨gH h.1 k,h.2⟩
structure Df(n:Nat)(s:Wk):Prop where
 nodup:s.set.Nodup
 lt:∀x∈s.set,x<n
 opens:Vc s.set.length s.opens
 nest:s.opens.length<=64
theorem Df.start(n:Nat):Df n ⟨[],[]⟩:=⟨List.nodup_nil,fun x h=>absurd h sM,trivial,gJ _⟩
theorem Df.leave{n:Nat}{s:Wk}(h:Df n s):Df n (B9 s):=by
 obtain⟨X,O⟩:=s;cases O with
 |nil=>exact h
 |cons b r=>
  obtain⟨h1,h2,⟨h3,h4⟩,h5⟩:=h;simp only[B9];simp only at h1 h2 h3 h4 h5;split
  .exact⟨h1,h2,h4.mono h3,by simp at h5 |-;omega⟩
  .refine⟨List.Sublist.nodup (List.take_sublist _ _) h1,fun x hx=>h2 x (List.mem_of_mem_take hx),?_,by simp at h5 |-;omega⟩;simp only[List.length_take];rw[Nat.min_eq_left h3];exact h4
theorem Df.turn{n:Nat}{s:Wk}{i:Ax}(h:Df n s)(hm:i.op=34\/i.op=36->s.opens.length<64):Df n (Fw s i):=by
 unfold Fw;split
 .rename_i e;exact⟨h.nodup,h.lt,⟨gF _,h.opens⟩,by have:=hm e;simp;omega⟩
 .split
  .exact h.leave
  .exact h
theorem Df.add{n:Nat}{s:Wk}{i:Ax}{r:Rw}(h:Df n s)(hd:r.d≠0->i.d.toNat<n):Df n (Jz s i r):=by
 unfold Jz;split
 .rename_i e;refine⟨?_,fun x hx=>?_,h.opens.mono sM,h.nest⟩
  .rw[List.nodup_append];refine⟨h.nodup,sM,fun a ha b hb=>?_⟩;simp at hb;subst hb;exact fun e'=>e.2 (e'▸ha)
  .rcases List.mem_append.1 hx with hx|hx
   .exact h.lt x hx
   .simp at hx;subst hx;exact hd e.1
 .exact h
theorem PV:∀ {n:Nat} {l:List Nat},l.Nodup->(∀x∈l,x<n)->l.length<=n:=by
 intro n;induction n with
 |zero=>intro l _ h;cases l with
  |nil=>exact gF _
  |cons a t=>exact absurd (h a sM) (Nat.not_lt_zero _)
 |succ n ih=>
  intro l hd h;have h1:=ih (l:=l.erase n) (hd.erase n) fun x hx=>by
   have h2:=h x (List.mem_of_mem_erase hx);have h3:x≠n:=fun e=>by
    subst e;exact(List.Nodup.not_mem_erase hd) hx
   omega
  have h2:l.length<=(l.erase n).length+1:=by
   rw[List.length_erase];split<;>omega
  omega
theorem Df.len{n:Nat}{s:Wk}(h:Df n s):s.set.length<=n:=PV h.nodup h.lt
theorem Eb{n:Int}{k:Nat}:Am n k=true↔0<=n/\n<(k:Int):=by unfold Am;simp
theorem BB{rs:List Ty}{l n:Int}{m:Ty}(h:Ae rs l n m=true)(hl:l≠0):0<=n/\n<(rs.length:Int):=by
 unfold Ae at h;rw[if_neg hl]at h;simp only[Bool.and_eq_true]at h;exact Eb.1 h.1
theorem IS{c:Cd}{i:Ax}{r:Rw}(h:Bm c i r=true):Ae c.regs r.d i.d (AF c.regs i r)=true:=by
 unfold Bm at h;simp only[Bool.and_eq_true]at h;exact h.1
theorem Mq{c:Cd}{i:Ax}{r:Rw}(h:Bm c i r=true):Ae c.regs r.a i.a (AF c.regs i r)=true:=by
 unfold Bm at h;simp only[Bool.and_eq_true]at h;exact h.2.1
theorem Mr{c:Cd}{i:Ax}{r:Rw}(h:Bm c i r=true):Ae c.regs r.b i.b (AF c.regs i r)=true:=by
 unfold Bm at h;simp only[Bool.and_eq_true]at h;exact h.2.2.1
theorem Ms{c:Cd}{i:Ax}{r:Rw}(h:Bm c i r=true):Ae c.regs r.c i.c (AF c.regs i r)=true:=by
 unfold Bm at h;simp only[Bool.and_eq_true]at h;exact h.2.2.2.1
theorem F7{c:Cd}{s:Wk}{i:Ax}(h:Bd c s i=true):AI i.op=true/\Bm c i (A5 i.op)=true/\AO c s i (A5 i.op)=true/\FU s i (A5 i.op)=true:=by
 unfold Bd at h;simp only[Bool.and_eq_true]at h;exact h
theorem F4{c:Cd}{s:Wk}{i:Ax}{r:Rw}(h:AO c s i r=true)(e:i.op=34\/i.op=36):s.opens.length<64:=by
 unfold AO at h;rw[if_pos e]at h;simp only[Bool.and_eq_true,decide_eq_true_eq]at h;exact h.2
theorem Df.step{c:Cd}{s:Wk}{i:Ax}(h:Df c.regs.length s)(t:Bd c s i=true):Df c.regs.length (AM s i):=by
 obtain⟨_,h2,h3,_⟩:=F7 t;refine(h.turn (F4 h3)).add fun hd=>?_;have:=BB (IS h2) hd;omega
theorem Om(a:Int)(h0:0<=a)(h1:a<4294967296)(w:World):
 Calls prog 163 #[.int .u32 a] w fun e w'=>e=.returned (.tuple #[.bool (decide (2147483648<=a)),.int .i64 (a/8388608%256),.int .i64 (a%8388608)])/\w'=w:=by
 have e1:=JB a h0 h1;have e2:=Vl (a/8388608) oM oM;have e3:=Ua a h0 h1;go_enter func163,ntmps163;go_wp2
 go_ret3
 exact⟨rfl,rfl⟩
theorem I4(a:Int)(h0:0<=a)(h1:a<4294967296)(w:World):
 Calls prog 152 #[.int .u32 a] w fun e w'=>e=.returned (.int .i64 (KA a))/\w'=w:=by
 by_cases c1:a/8388608%256=255
 .by_cases c2:a%8388608=0
  .have hc:KA a=4:=by unfold KA;rw[if_pos c1,if_pos c2]
   exact Vi
  .have hc:KA a=5:=by unfold KA;rw[if_pos c1,if_neg c2]
   exact Vi
 .by_cases c2:a/8388608%256=0
  .by_cases c3:a%8388608=0
   .have hc:KA a=1:=by unfold KA;rw[if_neg c1,if_pos c2,if_pos c3]
    exact Vi
   .have hc:KA a=2:=by unfold KA;rw[if_neg c1,if_pos c2,if_neg c3]
    exact Vi
  .have hc:KA a=3:=by unfold KA;rw[if_neg c1,if_neg c2]
   exact Vi
theorem NQ(a:Int)(h0:0<=a)(h1:a<4294967296)(hn:Lv a=true)(w:World):
 Calls prog 152 #[.int .u32 a] w fun e w'=>e=.returned (.int .i64 5)/\w'=w:=by
 have:=I4 a h0 h1 w;rwa[RW a hn h0 h1]at this
theorem NN(a:Int)(h0:0<=a)(h1:a<4294967296)(w:World):
 Calls prog 144 #[.int .u32 a] w fun e w'=>e=.returned (.int .u32 (canon a))/\w'=w:=by
 cases hn:Lv a
 .have hc:canon a=a:=by unfold canon;simp[hn]
  have h5:(KA a==5)=false:=by have:=RX a hn h0 h1;simpa using this
  rw[hc];clear hc hn;go_enter func144,ntmps144;go_wp2_with(go_at_call 152;refine(I4 _ h0 h1 _).mono ?_;rintro e w' ⟨rfl,rfl⟩);go_ret;exact⟨rfl,rfl⟩
 .have hc:canon a=2143289344:=by unfold canon;simp[hn]
  rw[hc];clear hc;go_enter func144,ntmps144;go_wp2_with(go_at_call 152;refine(NQ _ h0 h1 hn _).mono ?_;rintro e w' ⟨rfl,rfl⟩);go_ret;exact⟨rfl,rfl⟩
def IG(t:Ty):List Value:=[.int .i64 t.kind,.int .i64 t.par]
def Jp(s:Sl):List Value:=[.int .i64 s.ty.kind,.int .i64 s.ty.par,.bool s.keep,.int .u32 s.bits,.int .i64 s.int_]
def CJ(i:Ax):List Value:=[.int .i64 i.op,.int .i64 i.d,.int .i64 i.a,.int .i64 i.b,.int .i64 i.c,.int .i64 i.n,.int .u32 i.bits]
theorem Nt(t:Ty):(IG t).length=2:=rfl
theorem Nr(t:Sl):(Jp t).length=5:=rfl
theorem MC(t:Ax):(CJ t).length=7:=rfl
theorem JX(t:Bc):(AB t).length=3:=rfl
def Dj(t:Ty):Value:=.agg #[.int .i64 t.kind,.int .i64 t.par]
def CA(r:Rw):Value:=.agg #[.int .i64 r.d,.int .i64 r.a,.int .i64 r.b,.int .i64 r.c,.int .i64 r.n]
theorem kc{w w':World}(k:Below w.heap.size w w'){a:Addr}{v:Value}(h:w.cell? a=some v):w'.cell? a=some v:=(k.cell (Ad h)).trans h
theorem kf{w w':World}(k:Below w.heap.size w w'){a:Addr}{v:Value}(h:w.cell? a=some v)(f:w.frozen? a=false):w'.frozen? a=false:=(k.frozen (Ad h)).trans f
def Aq(w:World)(b o:Nat)(cs:List Value):Prop:=∀j (h:j<cs.length),w.cell? ⟨b,o+j,none⟩=some cs[j]
theorem Aq.below{w w':World}{b o:Nat}{cs:List Value}(h:Aq w b o cs)(k:Below w.heap.size w w'):Aq w' b o cs:=fun j hj=>(k.cell (Ad (h j hj))).trans (h j hj)
theorem Aq.at{w:World}{b o:Nat}{cs:List Value}(h:Aq w b o cs)(j:Nat){v:Value}(e:cs[j]? =some v):w.cell? ⟨b,o+j,none⟩=some v:=by
 obtain⟨hj,e⟩:=List.getElem?_eq_some_iff.1 e;rw[h j hj,e]
def Ce{α:Type}(k:Nat)(f:α->List Value)(w:World)(v:Value)(l:List α):Prop:=
 ∃p c,v=.slice p l.length c/\(l=[]\/∃b o,p=some ⟨b,o,none⟩/\∀i (h:i<l.length),Aq w b (o+i*k) (f l[i]))
theorem Ce.below{α:Type}{k:Nat}{f:α->List Value}{w w':World}{v:Value}{l:List α}(h:Ce k f w v l)(q:Below w.heap.size w w'):Ce k f w' v l:=by
 obtain⟨p,c,hv,h⟩:=h;exact⟨p,c,hv,h.imp id fun⟨b,o,hp,h⟩=>⟨b,o,hp,fun i hi=>(h i hi).below q⟩⟩
theorem Ce.at{α:Type}{k:Nat}{f:α->List Value}{w:World}{p:Option Addr}{n c:Nat}{l:List α}(h:Ce k f w (.slice p n c) l){i:Nat}(hi:i<l.length):∃b o,p=some ⟨b,o,none⟩/\Aq w b (o+i*k) (f l[i]):=by
 obtain⟨p',c',hv,h⟩:=h;simp only[Value.slice.injEq]at hv;obtain⟨rfl,rfl,rfl⟩:=hv;rcases h with h|⟨b,o,hp,h⟩
 .rw[h]at hi;exact absurd hi (Nat.not_lt_zero _)
 .exact⟨b,o,hp,h i hi⟩
theorem Ce.rd{w:World}{v:Value}{l:List Bc}(h:Ce 3 AB w v l):Rd w v l:=by
 obtain⟨p,c,hv,h⟩:=h;exact⟨p,c,hv,h.imp id fun⟨b,o,hp,h⟩=>⟨b,o,hp,fun i hi=>⟨(h i hi).at 0 rfl,(h i hi).at 1 rfl,(h i hi).at 2 rfl⟩⟩⟩
structure DO(w:World)(v0 v1 v2 v3:Value)(c:Cd):Prop where
 sign:Ce 3 AB w v0 c.sign
 regs:Ce 2 IG w v1 c.regs
 slots:Ce 5 Jp w v2 c.slots
 list:Ce 7 CJ w v3 c.list
theorem DO.below{w w':World}{v0 v1 v2 v3:Value}{c:Cd}(h:DO w v0 v1 v2 v3 c)(k:Below w.heap.size w w'):DO w' v0 v1 v2 v3 c:=⟨h.sign.below k,h.regs.below k,h.slots.below k,h.list.below k⟩
def BM(w:World)(C:Nat)(v0 v1 v2 v3:Value)(c:Cd):Prop:=Aq w C 0 [v0,v1,v2,v3]/\DO w v0 v1 v2 v3 c
theorem BM.below{w w':World}{C:Nat}{v0 v1 v2 v3:Value}{c:Cd}(h:BM w C v0 v1 v2 v3 c)(k:Below w.heap.size w w'):BM w' C v0 v1 v2 v3 c:=⟨h.1.below k,h.2.below k⟩
structure BE(c:Cd):Prop where
 signL:c.sign.length<=140737488351232
 names:∀p∈c.sign,p.name.size<=140737488351232
 regsL:c.regs.length<=140737488351232
 slotsL:c.slots.length<=140737488351232
 listL:c.list.length<=140737488351232
 sbits:∀s∈c.slots,0<=s.bits/\s.bits<4294967296
 ibits:∀i∈c.list,0<=i.bits/\i.bits<4294967296
theorem Cz(n:Int)(k:Nat)(w:World):Calls prog 127 #[.int .i64 n,.int .i64 k] w fun e w'=>e=.returned (.bool (Am n k))/\w'=w:=by
 unfold Am;by_cases h:0<=n
 all_goals
  go_enter func127,ntmps127;exact We
theorem Ga(n:Int)(w:World):Calls prog 128 #[.int .i64 n] w fun e w'=>e=.returned (.bool (wholeB n))/\w'=w:=by
 unfold wholeB;by_cases h:0<=n
 all_goals
  go_enter func128,ntmps128;exact We
theorem GP(a:Int)(h0:0<=a)(h1:a<4294967296)(w:World):Calls prog 129 #[.int .u32 a] w fun e w'=>e=.returned (.bool (C3 a))/\w'=w:=by
 have hc:C3 a=(canon a==a):=by unfold C3 canon;cases Lv a<;>rw[Bool.eq_iff_iff]<;>simp
 rw[hc];have HK:Hid (∀w,Calls prog 144 #[.int .u32 a] w fun e w'=>e=.returned (.int .u32 (canon a))/\w'=w):=NN a h0 h1;clear hc;obtain⟨x,hx⟩:=gA (canon a)
 rw[hx]at HK |-;clear hx;go_enter func129,ntmps129;go_wp2_with(go_at_call 144;refine(HK.out _).mono ?_;rintro e w1 ⟨rfl,rfl⟩);go_ret;exact⟨rfl,rfl⟩
theorem EO(t:Ty)(p:Option Addr)(n c:Nat)(hn:n<=140737488351232)(w:World):Calls prog 91 #[Dj t,.slice p n c] w fun e w'=>e=.returned (.bool (AG t n))/\Below w.heap.size w w':=by
 obtain⟨K,P⟩:=t;have HK:Hid (∀w,Calls prog 127 #[.int .i64 P,.int .i64 n] w fun e w'=>e=.returned (.bool (Am P n))/\w'=w):=Cz P n;unfold AG Dj;simp only;by_cases h1:K=1
 .subst h1;rw[if_pos (Or.inl rfl)];exact WY
 .by_cases h2:K=2
  .subst h2;rw[if_pos (Or.inr rfl)];exact WY
  .rw[if_neg (fun e=>e.elim h1 h2)];have h1':(K==1)=false:=by simpa using h1
   have h2':(K==2)=false:=by simpa using h2
   by_cases h3:K=3
   .subst h3;rw[if_pos rfl];go_enter func91,ntmps91;exact Yj
   .rw[if_neg h3];have h3':(K==3)=false:=by simpa using h3
    clear h1 h2 h3;exact WY
def P8(s:Sl):Value:=.agg #[.int .i64 s.ty.kind,.int .i64 s.ty.par,.bool s.keep,.int .u32 s.bits,.int .i64 s.int_]
theorem L5(s:Sl)(h0:0<=s.bits)(h1:s.bits<4294967296)(w:World):Calls prog 92 #[P8 s] w fun e w'=>e=.returned (.bool (ES s))/\Below w.heap.size w w':=by
 have HK:Hid (∀w,Calls prog 129 #[.int .u32 s.bits] w fun e w'=>e=.returned (.bool (C3 s.bits))/\w'=w):=GP s.bits h0 h1;have HL:Hid (∀w,Calls prog 128 #[.int .i64 s.int_] w fun e w'=>e=.returned (.bool (wholeB s.int_))/\w'=w):=Ga s.int_;obtain⟨⟨K,P⟩,Q,B,I⟩:=s;unfold ES P8;simp only at HK HL h0 h1 |-;obtain⟨X,hX⟩:=gA (C3 B)
 obtain⟨Y,hY⟩:=gA (wholeB I)
 rw[hX]at HK |-;rw[hY]at HL |-;clear hX hY;by_cases h2:K=2
 .subst h2;rw[if_pos rfl];cases hb:(B==0)
  all_goals
   go_enter func92,ntmps92;go_wp2_with(go_at_call 128;refine(HL.out _).mono ?_;rintro e w1 ⟨rfl,rfl⟩);go_ret;exact⟨A8 (by simp[hb]),A2 _ _⟩
 .rw[if_neg h2];have h2':(K==2)=false:=by simpa using h2
  clear h2;cases hb:(I==0)
  all_goals
   go_enter func92,ntmps92;go_wp2_with(go_at_call 129;refine(HK.out _).mono ?_;rintro e w1 ⟨rfl,rfl⟩);go_ret;exact⟨A8 (by simp[hb]),A2 _ _⟩
theorem Ry(K P L Q:Int):decide ((⟨K,P⟩:Ty)=⟨L,Q⟩)=(K==L&&P==Q):=by
 rw[Bool.eq_iff_iff];simp
theorem Oi(l:Int)(t m:Ty)(w:World):Calls prog 130 #[.int .i64 l,Dj t,Dj m] w fun e w'=>e=.returned (.bool (Ed l t m))/\Below w.heap.size w w':=by
 obtain⟨K,P⟩:=t;obtain⟨L,Q⟩:=m;unfold Ed Dj;simp only[Ry];by_cases h1:l=1
 .subst h1;rw[if_pos rfl];go_enter func130,ntmps130;go_wp2;go_ret;exact RR
 rw[if_neg h1];by_cases h2:l=2
 .subst h2;rw[if_pos rfl];clear h1;go_enter func130,ntmps130;go_wp2;go_ret;exact RR
 rw[if_neg h2];by_cases h3:l=3
 .subst h3;rw[if_pos rfl];clear h1 h2;go_enter func130,ntmps130;go_wp2;go_ret;exact RR
 rw[if_neg h3];by_cases h4:l=4
 .subst h4;rw[if_pos rfl];clear h1 h2 h3;cases hk:(K==1)
  all_goals
   go_enter func130,ntmps130;go_wp2;go_ret;exact⟨A8 (by simp[hk]),bel (A2 _ _) (A2 _ _)⟩
 rw[if_neg h4];by_cases h5:l=5
 .subst h5;rw[if_pos rfl];clear h1 h2 h3 h4;cases hk:(K==1)<;>cases hl:(K==L)<;>cases hq:(P==Q)
  all_goals
   go_enter func130,ntmps130;go_wp2;go_ret;exact⟨A8 (by simp[hk,hl,hq]),bel (A2 _ _) (A2 _ _)⟩
 rw[if_neg h5];have h1':(l==1)=false:=by simpa using h1
 have h2':(l==2)=false:=by simpa using h2
 have h3':(l==3)=false:=by simpa using h3
 have h4':(l==4)=false:=by simpa using h4
 have h5':(l==5)=false:=by simpa using h5
 clear h1 h2 h3 h4 h5;go_enter func130,ntmps130;go_wp2
 all_goals
  go_ret;exact⟨A8 (by simp[*]),bel (A2 _ _) (A2 _ _)⟩
theorem DF{l:List Ty}{n:Int}{k:Nat}(h:n=(k:Int))(hk:k<l.length):Au l n=l[k]:=by
 subst h;unfold Au;rw[if_pos (Eb.2 ⟨oM,oM⟩),Int.toNat_natCast,gB hk];rfl
theorem CZ{n:Int}{k:Nat}(h:Am n k=true):∃m:Nat,n=(m:Int)/\m<k:=by
 obtain⟨h0,h1⟩:=Eb.1 h;exact⟨n.toNat,oM,oM⟩
theorem BR(C:Nat)(v0 v1 v2 v3:Value)(c:Cd)(hk:BE c)(l n:Int)(m:Ty)(w:World)(hc:BM w C v0 v1 v2 v3 c):
 Calls prog 95 #[.pointer (some ⟨C,0,none⟩),.int .i64 l,.int .i64 n,Dj m] w fun e w'=>e=.returned (.bool (Ae c.regs l n m))/\Below w.heap.size w w':=by
 unfold Ae;by_cases h0:l=0
 .subst h0;rw[if_pos rfl];unfold Dj;go_enter func95,ntmps95;go_wp2;go_ret;exact⟨rfl,A2 _ _⟩
 rw[if_neg h0];have h0':(l==0)=false:=by simpa using h0
 clear h0;have HB:=hk.regsL;have K1:=Cz n c.regs.length;obtain⟨hcc,hcv⟩:=hc;have c1:=hcc.at 1 rfl;rw[Nat.zero_add]at c1;have hr:=hcv.regs;obtain⟨p,q,rfl,hrr⟩:=hcv.regs;have HN:Hid (c.regs.length=c.regs.length):=rfl;obtain⟨X,hX⟩:=gA (Am n c.regs.length)
 simp only[hX]at K1;rw[hX];have hC:=Ad c1;simp only at hC;cases X
 .clear hr hrr hcc hcv;obtain⟨N,hN⟩:=gA (c.regs.length)
  rw[hN]at K1 c1 HB;have HK:Hid (∀w,Calls prog 127 #[.int .i64 n,.int .i64 N] w fun e w'=>e=.returned (.bool false)/\w'=w):=K1;clear hN K1 hX HN;obtain⟨A,B⟩:=m;unfold Dj;go_enter func95,ntmps95;go_wp2;have hC':C≠w.heap.size:=oM;refine rG (fun v=>v.cell? ⟨C,1,none⟩=some (.slice p N q)) fun yH=>?_;exact XI
 .obtain⟨k,hnk,hkl⟩:=CZ hX;rw[DF hnk hkl];have hti:c.regs[k]=c.regs[k]:=rfl;obtain⟨b,o,hp,hx⟩:=hr.at hkl;subst hp;subst hnk;have x0:=hx.at 0 rfl;have x1:=hx.at 1 rfl;rw[Nat.add_zero]at x0;have hbl:=Ad x0;simp only at hbl;have K2:=Oi l c.regs[k] m;obtain⟨T,hT⟩:=gA (c.regs[k])
  rw[hT]at x0 x1 K2 |-;obtain⟨N,hN⟩:=gA (c.regs.length)
  rw[hN]at K1 c1 HB hkl;have HK:Hid (∀w,Calls prog 127 #[.int .i64 (k:Int),.int .i64 N] w fun e w'=>e=.returned (.bool true)/\w'=w):=K1;clear hN K1 hX HN hr hrr hcc hcv hx hti hT;obtain⟨A,B⟩:=m;obtain⟨D,E⟩:=T;unfold Dj at K2 |-;simp only at x0 x1 K2 |-;obtain⟨Y,hY⟩:=gA (Ed l ⟨D,E⟩ ⟨A,B⟩)
  rw[hY]at K2 |-;have HM:Hid (∀w,Calls prog 130 #[.int .i64 l,.agg #[.int .i64 D,.int .i64 E],.agg #[.int .i64 A,.int .i64 B]] w fun e w'=>e=.returned (.bool Y)/\Below w.heap.size w w'):=K2;clear K2 hY;have i1:(0:Int)<=(k:Int):=oM;have i2:(k:Int)<(N:Int):=oM;have hC':C≠w.heap.size:=oM;have hb':b≠w.heap.size:=oM;have HC:Hid (∀v,Below (w.alloc (.cells #[.int .i64 A,.int .i64 B] 43)).heap.size (w.alloc (.cells #[.int .i64 A,.int .i64 B] 43)) v->v.cell? ⟨C,1,none⟩=some (.slice (some ⟨b,o,none⟩) N q)/\v.cell? ⟨b,o+k*2,none⟩=some (.int .i64 D)/\v.cell? ⟨b,o+k*2+1,none⟩=some (.int .i64 E)/\v.cell? ⟨w.heap.size,0,none⟩=some (.int .i64 A)/\v.cell? ⟨w.heap.size,1,none⟩=some (.int .i64 B)):=
   fun v hv=>⟨kc hv (kc (A2 _ _) c1),kc hv (kc (A2 _ _) x0),kc hv (kc (A2 _ _) x1),kc hv sG,kc hv sG⟩
  go_enter func95,ntmps95;go_wp2;refine rG (fun v=>v.cell? ⟨C,1,none⟩=some (.slice (some ⟨b,o,none⟩) N q)/\v.cell? ⟨b,o+k*2,none⟩=some (.int .i64 D)/\v.cell? ⟨b,o+k*2+1,none⟩=some (.int .i64 E)/\v.cell? ⟨w.heap.size,0,none⟩=some (.int .i64 A)/\v.cell? ⟨w.heap.size,1,none⟩=some (.int .i64 B)) fun yH=>?_;refine Tf 0 1 2 3 4 5 ?_;clear yH;refine Aw 6 fun K hK=>?_;go_simp;(go_at_call 127;refine(HK.out _).mono ?_;rintro e w1 ⟨rfl,rfl⟩);try(go_wp2_with fail)
  refine AU hK fun yH=>?_;clear hK K;refine Tf 7 8 9 10 11 12 ?_;refine Tc 13 14 15 ?_;refine Bn 16 ?_;clear yH;refine Aw 17 fun K hK=>?_;go_simp;(go_at_call 130;refine(HM.out _).mono ?_;rintro e w1 ⟨rfl,hb1⟩;have HB1:=bel (A4 _) hb1;obtain⟨y0,y1,y2,y3,y4⟩:=HC.out w1 HB1);try(go_wp2_with fail)
  refine AU hK fun yH=>?_;clear hK K;refine Tb 18 19 ?_;refine wpAnyH_done kR ?_ _;go_wp2;go_ret;exact⟨sM,bel (A2 _ _) HB1⟩
theorem Ht(C:Nat)(p:Option Addr)(N q:Nat)(l:List Ty)(b o:Nat)(i:Ax)(r:Rw)(w:World)(hN:l.length=N)(c1:w.cell? ⟨C,1,none⟩=some (.slice p N q))(hr:Ce 2 IG w (.slice p N q) l)(hB:N<=140737488351232)(hi:Aq w b o (CJ i)):
 Calls prog 93 #[.pointer (some ⟨C,0,none⟩),.pointer (some ⟨b,o,none⟩),CA r] w fun e w'=>e=.returned (Dj (AF l i r))/\Below w.heap.size w w':=by
 unfold AF JT;have e1:=hi.at 1 rfl;have e2:=hi.at 2 rfl;have hC:=Ad c1;have hb:=Ad e1;simp only at hC hb;have n1:C≠w.heap.size:=oM;have n2:C≠w.heap.size+1:=oM;have n3:b≠w.heap.size:=oM;have n4:b≠w.heap.size+1:=oM;clear hi hC hb;obtain⟨D,A,B,X,Y⟩:=r;unfold CA;simp only;have HA:Hid (∀a v,w.cell? a=some v->((w.alloc (.cells #[.int .i64 D,.int .i64 A,.int .i64 B,.int .i64 X,.int .i64 Y] 109)).alloc (.cells #[.int .i64 0,.int .i64 0] 43)).cell? a=some v):=fun a v h=>kc (A2 _ _) (kc (A2 _ _) h);obtain⟨x,hx⟩:=gA ((if D=0 then i.a else i.d))
 rw[hx];have K1:=Cz x N;have HX:Hid ((D=0/\x=i.a)\/(D≠0/\x=i.d)):=by
  show _\/_;by_cases h:D=0
  .rw[if_pos h]at hx;exact .inl ⟨h,hx.symm⟩
  .rw[if_neg h]at hx;exact .inr ⟨h,hx.symm⟩
 clear hx;obtain⟨P,hP⟩:=gA (Am x N)
 simp only[hP]at K1;have HK:Hid (∀w,Calls prog 127 #[.int .i64 x,.int .i64 N] w fun e w'=>e=.returned (.bool P)/\w'=w):=K1;clear K1;cases P
 .have HT:Hid (Au l x=⟨0,0⟩):=by show _=_;unfold Au;rw[hN,hP];rfl
  clear hP hr;rcases HX.out with⟨rfl,rfl⟩|⟨hD,rfl⟩
  .clear HX;have f1:=HA.out _ _ e1;have f2:=HA.out _ _ e2;have f3:=HA.out _ _ c1;exact VV
  .clear HX;have hD':(D==0)=false:=by simpa using hD
   clear hD;have f1:=HA.out _ _ e1;have f2:=HA.out _ _ e2;have f3:=HA.out _ _ c1;exact VV
 .obtain⟨k,hxk,hk⟩:=CZ hP;have hkl:k<l.length:=oM;have HT:Hid (Au l x=l[k]):=DF hxk hkl;obtain⟨g,u,hp,hx⟩:=hr.at hkl;subst hp;have x0:=hx.at 0 rfl;have x1:=hx.at 1 rfl;rw[Nat.add_zero]at x0;obtain⟨T,hT⟩:=gA (l[k])
  rw[hT]at x0 x1 HT;obtain⟨E,G⟩:=T;simp only at x0 x1;have hg:=Ad x0;simp only at hg;have n5:g≠w.heap.size:=oM;have n6:g≠w.heap.size+1:=oM;have i1:(0:Int)<=(k:Int):=oM;have i2:(k:Int)<(N:Int):=oM;clear hP hr hx hT hg hN hkl;rcases HX.out with⟨rfl,hv⟩|⟨hD,hv⟩
  .clear HX;rw[<-hv,hxk]at e2;rw[hxk]at HK HT |-;clear hv hxk;have f1:=HA.out _ _ e1;have f2:=HA.out _ _ e2;have f3:=HA.out _ _ c1;have f4:=HA.out _ _ x0;have f5:=HA.out _ _ x1;exact VV
  .clear HX;have hD':(D==0)=false:=by simpa using hD
   rw[<-hv,hxk]at e1;rw[hxk]at HK HT |-;clear hD hv hxk;have f1:=HA.out _ _ e1;have f2:=HA.out _ _ e2;have f3:=HA.out _ _ c1;have f4:=HA.out _ _ x0;have f5:=HA.out _ _ x1;exact VV
theorem Fg(C:Nat)(v0 v1 v2 v3:Value)(c:Cd)(hk:BE c)(b o:Nat)(i:Ax)(r:Rw)(w:World)(hc:BM w C v0 v1 v2 v3 c)(hi:Aq w b o (CJ i)):
 Calls prog 93 #[.pointer (some ⟨C,0,none⟩),.pointer (some ⟨b,o,none⟩),CA r] w fun e w'=>e=.returned (Dj (AF c.regs i r))/\Below w.heap.size w w':=by
 obtain⟨hcc,hcv⟩:=hc;have c1:=hcc.at 1 rfl;rw[Nat.zero_add]at c1;have hr:=hcv.regs;obtain⟨p,q,rfl,hrr⟩:=hcv.regs;exact Ht C p _ q c.regs b o i r w rfl c1 hr hk.regsL hi
theorem Ee(s:ByteArray):(s.toList==[])=(s.size==0):=by
 rw[Bool.eq_iff_iff];simp only[beq_iff_eq];constructor
 .intro h;rw[ByteArray.toList_eq]at h;show s.data.size=0;rw[<-Array.length_toList,h];rfl
 .intro h;rw[ByteArray.toList_eq];exact List.eq_nil_of_length_eq_zero (by rw[Array.length_toList];exact h)
theorem CK(s:ByteArray):s.toList.isEmpty=(s.size==0):=by
 rw[<-Ee,Bool.eq_iff_iff];simp
theorem Io{s:ByteArray}{j:Nat}(h:j<s.size)(hq:EJ (s[j].toNat:Int)=false):B1 s=false:=by
 unfold B1;have:((bs s).all fun b=>EJ (nb b))=false:=by
  rw[List.all_eq_false];exact⟨s[j],by unfold bs;exact Array.mem_toList_iff.2 (Array.getElem_mem (xs:=s.data) h),by simp[nb,hq]⟩
 rw[this,Bool.and_false]
theorem Lu{s:ByteArray}(h0:s.size≠0)(h1:s.size<=64)(h:∀j (h:j<s.size),EJ (s[j].toNat:Int)=true):B1 s=true:=by
 unfold B1;have:((bs s).all fun b=>EJ (nb b))=true:=by
  rw[List.all_eq_true];intro b hb;obtain⟨j,hj,rfl⟩:=List.mem_iff_getElem.1 hb;exact h j (by rw[<-A9];exact hj)
 rw[this];simp[h0,h1]
theorem LV(s:ByteArray)(hs:s.size<=140737488351232)(w:World):
 Calls prog 100 #[.string s] w fun e w'=>e=.returned (.bool (B1 s))/\w'=w:=by
 by_cases h0:s.size=0
 .have he:s.toList.isEmpty=true:=by rw[CK];simp[h0]
  have he2:(s.toList==[])=true:=by rw[Ee];simp[h0]
  have hf:B1 s=false:=by unfold B1;simp[h0]
  rw[hf];go_enter func100,ntmps100;go_wp2
  all_goals(go_ret;exact⟨rfl,rfl⟩)
 .have he:s.toList.isEmpty=false:=by rw[CK];simp[h0]
  have he2:(s.toList==[])=false:=by rw[Ee];simp[h0]
  by_cases h64:s.size<=64
  .have h64':¬ ((64:Int)<(s.size:Int)):=oM;go_enter func100,ntmps100;go_wp2
   go_loopw [3] (fun iv wr=>wr=w/\∃j:Nat,j<=s.size/\iv=.int .i64 j/\Hid (∀i (h:i<s.size),i<j->EJ (s[i].toNat:Int)=true)) (fun iv _=>s.size-(intOf iv).toNat)
   case atStart=>exact⟨rfl,0,gJ _,rfl,fun i h hi=>absurd hi (Nat.not_lt_zero _)⟩
   case round=>
    obtain⟨rfl,j,hj,rfl,hp⟩:=hrel;by_cases hlt:j<s.size
    .have i1:(0:Int)<=(j:Int):=oM;have i2:(j:Int)<(s.size:Int):=oM;have NX:Hid (EJ (s[j].toNat:Int)=true->∀i (h:i<s.size),i<j+1->EJ (s[i].toNat:Int)=true):=fun hq i h hi=>by
      exact U1
     have NB:Hid (EJ (s[j].toNat:Int)=false->B1 s=false):=fun h=>Io hlt h;go_upto_region 7 with(fail)
     obtain⟨c,hc⟩:∃c:Int,(s[j].toNat:Int)=c:=⟨_,rfl⟩
     have hc2:0<=c/\c<=255:=by have:=s[j].toNat_lt;omega
     rw[hc]at NX NB |-;clear hc;go_cut [59] (fun cv wx=>cv=.bool (!EJ c)/\wx=wr)
     case first=>
      have hcl:(0<=c/\c<=44)\/(c=45)\/(c=46)\/(c=47)\/(48<=c/\c<=57)\/(58<=c/\c<=64)\/(65<=c/\c<=90)\/(91<=c/\c<=94)\/(c=95)\/(c=96)\/(97<=c/\c<=122)\/(123<=c/\c<=255):=oM;rcases hcl with h|h|h|h|h|h|h|h|h|h|h|h
      .have f97:¬ (97:Int)<=c:=oM;have f65:¬ (65:Int)<=c:=oM;have f48:¬ (48:Int)<=c:=oM;have g122:c<=(122:Int):=oM;have g90:c<=(90:Int):=oM;have g57:c<=(57:Int):=oM;exact Vg
      .have f97:¬ (97:Int)<=c:=oM;have f65:¬ (65:Int)<=c:=oM;have f48:¬ (48:Int)<=c:=oM;have g122:c<=(122:Int):=oM;have g90:c<=(90:Int):=oM;have g57:c<=(57:Int):=oM;have e95:(c==(95:Int))=false:=by rw[beq_eq_false_iff_ne];omega
       have e46:(c==(46:Int))=false:=by rw[beq_eq_false_iff_ne];omega
       have e47:(c==(47:Int))=false:=by rw[beq_eq_false_iff_ne];omega
       have e45:(c==(45:Int))=true:=sO;have hp2:EJ c=true:=by unfold EJ;simp[*]
       clear h hp NX NB;go_wp2;go_meet;exact⟨by rw[hp2];rfl,rfl⟩
      .have f97:¬ (97:Int)<=c:=oM;have f65:¬ (65:Int)<=c:=oM;have f48:¬ (48:Int)<=c:=oM;have g122:c<=(122:Int):=oM;have g90:c<=(90:Int):=oM;have g57:c<=(57:Int):=oM;have e95:(c==(95:Int))=false:=by rw[beq_eq_false_iff_ne];omega
       have e46:(c==(46:Int))=true:=sO;exact Vh
      .have f97:¬ (97:Int)<=c:=oM;have f65:¬ (65:Int)<=c:=oM;have f48:¬ (48:Int)<=c:=oM;have g122:c<=(122:Int):=oM;have g90:c<=(90:Int):=oM;have g57:c<=(57:Int):=oM;have e95:(c==(95:Int))=false:=by rw[beq_eq_false_iff_ne];omega
       have e46:(c==(46:Int))=false:=by rw[beq_eq_false_iff_ne];omega
       have e47:(c==(47:Int))=true:=sO;have e45:(c==(45:Int))=false:=by rw[beq_eq_false_iff_ne];omega
       have hp2:EJ c=true:=by unfold EJ;simp[*]
       clear h hp NX NB;go_wp2;go_meet;exact⟨by rw[hp2];rfl,rfl⟩
      .have f97:¬ (97:Int)<=c:=oM;have f65:¬ (65:Int)<=c:=oM;have f48:(48:Int)<=c:=oM;have g122:c<=(122:Int):=oM;have g90:c<=(90:Int):=oM;have g57:c<=(57:Int):=oM;have e95:(c==(95:Int))=false:=by rw[beq_eq_false_iff_ne];omega
       have e46:(c==(46:Int))=false:=by rw[beq_eq_false_iff_ne];omega
       exact Vh
      .have f97:¬ (97:Int)<=c:=oM;have f65:¬ (65:Int)<=c:=oM;have f48:(48:Int)<=c:=oM;have g122:c<=(122:Int):=oM;have g90:c<=(90:Int):=oM;have g57:¬c<=(57:Int):=oM;exact Vg
      .have f97:¬ (97:Int)<=c:=oM;have f65:(65:Int)<=c:=oM;have f48:(48:Int)<=c:=oM;have g122:c<=(122:Int):=oM;have g90:c<=(90:Int):=oM;have g57:¬c<=(57:Int):=oM;have e95:(c==(95:Int))=false:=by rw[beq_eq_false_iff_ne];omega
       have e46:(c==(46:Int))=false:=by rw[beq_eq_false_iff_ne];omega
       exact Vh
      .have f97:¬ (97:Int)<=c:=oM;have f65:(65:Int)<=c:=oM;have f48:(48:Int)<=c:=oM;have g122:c<=(122:Int):=oM;have g90:¬c<=(90:Int):=oM;have g57:¬c<=(57:Int):=oM;exact Vg
      .have f97:¬ (97:Int)<=c:=oM;have f65:(65:Int)<=c:=oM;have f48:(48:Int)<=c:=oM;have g122:c<=(122:Int):=oM;have g90:¬c<=(90:Int):=oM;have g57:¬c<=(57:Int):=oM;have e95:(c==(95:Int))=true:=sO;have e46:(c==(46:Int))=false:=by rw[beq_eq_false_iff_ne];omega
       exact Vh
      .have f97:¬ (97:Int)<=c:=oM;have f65:(65:Int)<=c:=oM;have f48:(48:Int)<=c:=oM;have g122:c<=(122:Int):=oM;have g90:¬c<=(90:Int):=oM;have g57:¬c<=(57:Int):=oM;exact Vg
      .have f97:(97:Int)<=c:=oM;have f65:(65:Int)<=c:=oM;have f48:(48:Int)<=c:=oM;have g122:c<=(122:Int):=oM;have g90:¬c<=(90:Int):=oM;have g57:¬c<=(57:Int):=oM;have e95:(c==(95:Int))=false:=by rw[beq_eq_false_iff_ne];omega
       have e46:(c==(46:Int))=false:=by rw[beq_eq_false_iff_ne];omega
       exact Vh
      .have f97:(97:Int)<=c:=oM;have f65:(65:Int)<=c:=oM;have f48:(48:Int)<=c:=oM;have g122:¬c<=(122:Int):=oM;have g90:¬c<=(90:Int):=oM;have g57:¬c<=(57:Int):=oM;exact Vg
     case rest=>
      obtain⟨rfl,rfl⟩:=hcut;cases hq:EJ c
      .have HB2:Hid (B1 s=false):=NB.out hq;clear NX NB hp hc2;go_wp2;go_ret;exact⟨A8 HB2.symm,rfl⟩
      .have HP2:Hid (∀i (h:i<s.size),i<j+1->EJ (s[i].toNat:Int)=true):=NX.out hq;clear NX NB hp hc2;go_wp2;go_roundw
       case rel=>exact⟨by trivial,j+1,oM,gN,HP2.out⟩
       case measure=>simp[intOf];omega
    .exact Y7
  .have hf:B1 s=false:=by unfold B1;simp[h0,h64]
   have h64':(64:Int)<(s.size:Int):=oM;rw[hf];go_enter func100,ntmps100;go_wp2
   all_goals(go_ret;exact⟨rfl,rfl⟩)
theorem J3(p:Bc):AK p=((B1 p.name&&(p.kind==1||p.kind==2))&&(decide (1<=p.len)&&decide (p.len<=4096))):=rfl
theorem JY(p:Bc)(hs:p.name.size<=140737488351232)(w:World):
 Calls prog 61 #[pv p] w fun e w'=>e=.returned (.bool (AK p))/\Below w.heap.size w w':=by
 rw[J3];obtain⟨X,K,L⟩:=p;unfold pv;have KN:=LV X hs;simp only;obtain⟨N,hN⟩:=gA (B1 X)
 rw[hN]at KN |-;have HK:Hid (∀w,Calls prog 100 #[.string X] w fun e w'=>e=.returned (.bool N)/\w'=w):=KN;clear KN hN;cases N
 .go_enter func61,ntmps61;go_wp2_with(go_at_call 100;refine(HK.out _).mono ?_;rintro e w1 ⟨rfl,rfl⟩);go_ret;exact⟨rfl,A2 _ _⟩
 .have hk:((K==1)=true/\(K==2)=false)\/((K==1)=false/\(K==2)=true)\/((K==1)=false/\(K==2)=false):=by
   exact Y4
  have hL:(1<=L/\L<=4096)\/(¬1<=L/\L<=4096)\/(1<=L/\¬L<=4096):=oM;rcases hk with⟨h1,h2⟩|⟨h1,h2⟩|⟨h1,h2⟩<;>rcases hL with⟨h3,h4⟩|⟨h3,h4⟩|⟨h3,h4⟩
  all_goals
   go_enter func61,ntmps61;go_wp2_with(go_at_call 100;refine(HK.out _).mono ?_;rintro e w1 ⟨rfl,rfl⟩);go_ret;exact⟨A8 (by simp[h1,h2,h3,h4]),A2 _ _⟩
theorem Ja(p:Bc)(hs:p.name.size<=140737488351232)(w:World):
 Calls prog 101 #[pv p] w fun e w'=>e=.returned (.int .i64 (EC p))/\Below w.heap.size w w':=by
 have KM:=JY p hs;have hm:AK p=true->1<=p.len/\p.len<=4096:=fun h=>by rw[J3]at h;simp at h;exact h.2
 have hn:EC p=if AK p then(if p.kind==2 then 2*p.len else p.len)else 0:=rfl;rw[hn];clear hn;obtain⟨N,hN⟩:=gA (AK p)
 rw[hN]at KM hm |-;clear hN hs;obtain⟨X,K,L⟩:=p;unfold pv at KM |-;simp only at hm KM |-;have HK:Hid (∀w,Calls prog 61 #[.agg #[.string X,.int .i64 K,.int .i64 L]] w fun e w'=>e=.returned (.bool N)/\Below w.heap.size w w'):=KM;clear KM;cases N
 .clear hm;go_enter func101,ntmps101;go_wp2_with(go_at_call 61;refine(HK.out _).mono ?_;rintro e w1 ⟨rfl,hb1⟩);exact Wg
 .have hL:=hm rfl;clear hm;cases h2:(K==2)
  .go_enter func101,ntmps101;go_wp2_with(go_at_call 61;refine(HK.out _).mono ?_;rintro e w1 ⟨rfl,hb1⟩;have c1:w1.cell? ⟨w.heap.size,1,none⟩=some (.int .i64 K):=(hb1.cell sM).trans sG;have c2:w1.cell? ⟨w.heap.size,2,none⟩=some (.int .i64 L):=(hb1.cell sM).trans sG);exact Wg
  .go_enter func101,ntmps101;go_wp2_with(go_at_call 61;refine(HK.out _).mono ?_;rintro e w1 ⟨rfl,hb1⟩;have c1:w1.cell? ⟨w.heap.size,1,none⟩=some (.int .i64 K):=(hb1.cell sM).trans sG;have c2:w1.cell? ⟨w.heap.size,2,none⟩=some (.int .i64 L):=(hb1.cell sM).trans sG);go_ret;exact⟨DG sM,bel (A2 _ _) hb1⟩
theorem L8{a b:ByteArray}(h:(a.toList==b.toList)=true):a=b:=by
 rw[beq_iff_eq,ByteArray.toList_eq,ByteArray.toList_eq]at h;exact Pn h
theorem Sg{a b:ByteArray}(h:a=b):(a.toList==b.toList)=true:=by rw[h];simp
theorem Sh{a b:ByteArray}(h:a≠b):(a.toList==b.toList)=false:=by
 cases e:(a.toList==b.toList)
 .rfl
 .exact absurd (L8 e) h
theorem Ot(v:Value)(l:List Bc)(hl:l.length<=140737488351232)(s:ByteArray)(w:World)(hr:Rd w v l):
 Calls prog 62 #[v,.string s] w fun e w'=>e=.returned (.tuple #[.int .i64 ((AR s l).getD 0:Nat),.bool (AR s l).isSome])/\w'=w:=by
 obtain⟨p,c,rfl,hr⟩:=hr;obtain⟨n,hn⟩:=gA (l.length)
 rw[hn]at hl |-;have HN:Hid (l.length=n):=hn;have HR:Hid (P6 w p l):=hr;clear hn hr;go_enter func62,ntmps62;go_wp2
 go_loopw [6] (fun iv wr=>wr=w/\∃j:Nat,j<=n/\iv=.int .i64 j/\Hid (∀i (h:i<l.length),i<j->l[i].name≠s)) (fun iv _=>n-(intOf iv).toNat)
 case atStart=>exact⟨rfl,0,gJ _,rfl,fun i h hi=>absurd hi (Nat.not_lt_zero _)⟩
 case round=>
  obtain⟨rfl,j,hj,rfl,hp⟩:=hrel;by_cases hlt:j<n
  .have hll:j<l.length:=by rw[HN.out];exact hlt
   obtain⟨b,o,rfl,x0,x1,x2⟩:=HR.at hll;have i1:(0:Int)<=(j:Int):=oM;have i2:(j:Int)<(n:Int):=oM;by_cases he:l[j].name=s
   .have HF:Hid (AR s l=some j):=I8 hll he hp.out;have he':=Sg he;clear hp he;go_wp2
    go_ret2
    exact⟨by rw[HF.out];rfl,rfl⟩
   .have HP2:Hid (∀i (h:i<l.length),i<j+1->l[i].name≠s):=fun i h hi=>by
     by_cases e:i=j
     .subst e;exact he
     .exact hp.out i h oM
    have he':=Sh he;clear hp he;go_wp2;go_roundw
    case rel=>exact⟨by trivial,j+1,oM,gN,HP2.out⟩
    case measure=>simp[intOf];omega
  .have:j=n:=oM;subst this;have HF:Hid (AR s l=none):=I7 fun i h=>hp.out i h (by rw[<-HN.out];exact h);clear hp;go_wp2
   go_ret2
   exact⟨by rw[HF.out];rfl,rfl⟩
theorem LH(v:Value)(l:List Bc)(hl:l.length<=140737488351232)(hM:∀p∈l,p.name.size<=140737488351232)(w:World)(hr:Rd w v l):
 Calls prog 63 #[v] w fun e w'=>e=.returned (.int .i64 (C4 l))/\Below w.heap.size w w':=by
 obtain⟨p,c,rfl,hr⟩:=hr;obtain⟨n,hn⟩:=gA (l.length)
 rw[hn]at hl |-;have HN:Hid (l.length=n):=hn;have HR:Hid (P6 w p l):=hr;have HM:Hid (∀p∈l,p.name.size<=140737488351232):=hM;clear hn hr hM;go_enter func63,ntmps63;go_wp2
 go_loopw [3,4] (fun tv iv wr=>Below w.heap.size w wr/\∃j:Nat,j<=n/\iv=.int .i64 j/\tv=.int .i64 (C4 (l.take j))) (fun _ iv _=>n-(intOf iv).toNat)
 case atStart=>exact⟨BY w,0,gJ _,rfl,rfl⟩
 case round=>
  obtain⟨hb,j,hj,rfl,rfl⟩:=hrel;by_cases hlt:j<n
  .have hll:j<l.length:=by rw[HN.out];exact hlt
   obtain⟨b,o,rfl,hx⟩:=HR.at hll;obtain⟨x0,x1,x2⟩:=hx.below hb;have i1:(0:Int)<=(j:Int):=oM;have i2:(j:Int)<(n:Int):=oM;have KN:=Ja l[j] (HM.out _ (gD hll));unfold pv at KN;have HK:Hid (∀w,Calls prog 101 #[.agg #[.string l[j].name,.int .i64 l[j].kind,.int .i64 l[j].len]] w fun e w'=>e=.returned (.int .i64 (EC l[j]))/\Below w.heap.size w w'):=KN;have ht:C4 (l.take (j+1))=C4 (l.take j)+EC l[j]:=by rw[Ex hll,Ku]
   have hb1:=F8 (l.take j);have hb2:=Dw l[j];rw[List.length_take,HN.out,Nat.min_eq_left hj]at hb1;obtain⟨T,hT⟩:=gA (C4 (l.take j))
   obtain⟨U,hU⟩:=gA (EC l[j])
   rw[hT,hU]at ht;rw[hT]at hb1 |-;rw[hU]at hb2 HK;have HT:Hid (C4 (l.take (j+1))=T+U):=ht;have hw1:IntKind.i64.wrap (T+U)=T+U:=by rw[IntKind.wrap_i64];omega
   clear KN ht hT hU hx;go_wp2_with(go_at_call 101;refine(HK.out _).mono ?_;rintro e w1 ⟨rfl,hb3⟩);go_roundw
   case rel=>exact⟨bel hb hb3,j+1,oM,gN,by rw[HT.out]⟩
   case measure=>simp[intOf];omega
  .exact Y1
theorem Mp{s:ByteArray}:∀ {l:List Bc} {k:Nat},AR s l=some k->k<l.length/\∀h:k<l.length,l[k].name=s
 |[],k,h=>by cases h
 |p::r,k,h=>by
  simp only[AR]at h;split at h
  .rename_i e;cases h
   exact⟨sM,fun _=>e⟩
  .cases hf:AR s r with
   |none=>rw[hf]at h;cases h
   |some m=>
    rw[hf]at h;cases h
    obtain⟨h1,h2⟩:=Mp hf;exact⟨by simp;exact h1,fun _=>by simp only[List.getElem_cons_succ];exact h2 h1⟩
theorem Gu{s:ByteArray}:∀ {l:List Bc} {i:Nat} (h:i<l.length),l[i].name=s->∃k,AR s l=some k/\k<=i
 |[],i,h,_=>absurd h (Nat.not_lt_zero _)
 |p::r,i,h,e=>by
  simp only[AR];split
  .exact⟨0,rfl,gJ _⟩
  .rename_i hp;cases i with
   |zero=>exact absurd e hp
   |succ i=>
    obtain⟨k,hk,hki⟩:=Gu (l:=r) (i:=i) U6 (by simpa using e);exact⟨k+1,by rw[hk];rfl,oM⟩
theorem Rx{l:List Bc}{i:Nat}(h:i<l.length)(hk:(AR l[i].name l).getD 0≠i):B6 l=true:=by
 obtain⟨k,hk1,hk2⟩:=Gu (l:=l) h rfl;rw[hk1]at hk;obtain⟨h1,h2⟩:=Mp hk1;have hne:k≠i:=hk;exact G1.2 ⟨i,k,h,h1,oM,h2 h1⟩
theorem Sw{l:List Bc}(h:∀i (h:i<l.length),(AR l[i].name l).getD 0=i):B6 l=false:=by
 cases ht:B6 l
 .rfl
 .obtain⟨i,j,hi,hj,hji,e⟩:=G1.1 ht;obtain⟨k,hk,hkj⟩:=Gu (s:=l[i].name) hj e;have:=h i hi;rw[hk]at this;have:k=i:=this;omega
theorem DC(v:Value)(l:List Bc)(hl:l.length<=140737488351232)(hM:∀p∈l,p.name.size<=140737488351232)(w:World)(hr:Rd w v l):
 Calls prog 32 #[v] w fun e w'=>e=.returned (.int .i64 (AC l))/\Below w.heap.size w w':=by
 have KT:Hid (∀w,Rd w v l->Calls prog 63 #[v] w fun e w'=>e=.returned (.int .i64 (C4 l))/\Below w.heap.size w w'):=fun w h=>LH v l hl hM w h;have KF:Hid (∀w s,Rd w v l->Calls prog 62 #[v,.string s] w fun e w'=>e=.returned (.tuple #[.int .i64 ((AR s l).getD 0:Nat),.bool (AR s l).isSome])/\w'=w):=fun w s h=>Ot v l hl s w h;have HRD:Hid (Rd w v l):=hr;obtain⟨p,c,rfl,hr⟩:=hr;obtain⟨n,hn⟩:=gA (l.length)
 have HN:Hid (l.length=n):=hn;have HR:Hid (P6 w p l):=hr;have HM:Hid (∀p∈l,p.name.size<=140737488351232):=hM;have HC:Hid (AC l=if n>64 then 2 else if l.all AK=false then 100 else if B6 l then 101 else if C4 l>65536 then 102 else 0):=by
  show _=_;unfold AC;rw[hn]
 rw[hn]at hl HRD KT KF |-;clear hn hr hM;by_cases h64:n<=64
 .have h64':¬ (64:Int)<(n:Int):=oM;have hng:¬n>64:=oM;have HC2:Hid (AC l=if l.all AK=false then 100 else if B6 l then 101 else if C4 l>65536 then 102 else 0):=by show _=_;rw[HC.out,if_neg hng]
  clear HC hng;go_enter func32,ntmps32;go_wp2
  go_loopw [3] (fun iv wr=>Below w.heap.size w wr/\∃j:Nat,j<=n/\iv=.int .i64 j/\Hid (∀i (h:i<l.length),i<j->AK l[i]=true)) (fun iv _=>n-(intOf iv).toNat)
  case atStart=>exact⟨BY w,0,gJ _,rfl,fun i h hi=>absurd hi (Nat.not_lt_zero _)⟩
  case round=>
   obtain⟨hb,j,hj,rfl,hp⟩:=hrel;by_cases hlt:j<n
   .have hll:j<l.length:=by rw[HN.out];exact hlt
    obtain⟨b,o,rfl,hx⟩:=HR.at hll;obtain⟨x0,x1,x2⟩:=hx.below hb;have i1:(0:Int)<=(j:Int):=oM;have i2:(j:Int)<(n:Int):=oM;have KM:=JY l[j] (HM.out _ (gD hll));unfold pv at KM;have HA:Hid (AK l[j]=false->l.all AK=false):=fun h=>List.all_eq_false.2 ⟨l[j],gD hll,by rw[h];decide⟩;have HB:Hid (AK l[j]=true->∀i (h:i<l.length),i<j+1->AK l[i]=true):=fun hq i h hi=>by
     exact U1
    obtain⟨M,hMM⟩:=gA (AK l[j])
    rw[hMM]at KM HA HB;have HK:Hid (∀w,Calls prog 61 #[.agg #[.string l[j].name,.int .i64 l[j].kind,.int .i64 l[j].len]] w fun e w'=>e=.returned (.bool M)/\Below w.heap.size w w'):=KM;clear KM hMM hx hp;cases M
    .have HA2:Hid (AC l=100):=by show _=_;rw[HC2.out,if_pos (HA.out rfl)]
     clear HA HB;go_wp2_with(go_at_call 61;refine(HK.out _).mono ?_;rintro e w1 ⟨rfl,hb1⟩);go_ret;exact⟨DG HA2.symm,bel hb hb1⟩
    .have HB2:Hid (∀i (h:i<l.length),i<j+1->AK l[i]=true):=HB.out rfl;clear HA HB;go_wp2_with(go_at_call 61;refine(HK.out _).mono ?_;rintro e w1 ⟨rfl,hb1⟩);go_roundw
     case rel=>exact⟨bel hb hb1,j+1,oM,gN,HB2.out⟩
     case measure=>simp[intOf];omega
   .have:j=n:=oM;subst this;have hall:l.all AK=true:=List.all_eq_true.2 fun q hq=>by
     obtain⟨i,hi,rfl⟩:=List.mem_iff_getElem.1 hq;exact Wh
    have HC3:Hid (AC l=if B6 l then 101 else if C4 l>65536 then 102 else 0):=by show _=_;rw[HC2.out,if_neg (by rw[hall];decide)]
    clear hp hall HC2;go_wp2
    go_loopw [4] (fun iv wr=>Below w.heap.size w wr/\∃i:Nat,i<=j/\iv=.int .i64 i/\Hid (∀k (h:k<l.length),k<i->(AR l[k].name l).getD 0=k)) (fun iv _=>j-(intOf iv).toNat)
    case atStart=>exact⟨hb,0,gJ _,rfl,fun i h hi=>absurd hi (Nat.not_lt_zero _)⟩
    case round=>
     obtain⟨hb',i,hi,rfl,hp⟩:=hrel;by_cases hlt':i<j
     .have hll:i<l.length:=by rw[HN.out];exact hlt'
      obtain⟨b,o,rfl,hx⟩:=HR.at hll;obtain⟨x0,x1,x2⟩:=hx.below hb';have i1:(0:Int)<=(i:Int):=oM;have i2:(i:Int)<(j:Int):=oM;have K1:=KF.out _ l[i].name (HRD.below hb');have hlo:=Gu (l:=l) hll rfl;obtain⟨k0,hk0,hk1⟩:=hlo;have T1:=Rx (l:=l) hll;rw[hk0]at K1 T1;have HP0:Hid ((AR l[i].name l).getD 0=k0):=by show _=_;rw[hk0];rfl
      simp only[Option.getD_some,Option.isSome_some]at K1 T1;have HK:Hid (Calls prog 62 #[.slice (some ⟨b,o,none⟩) j c,.string l[i].name] _ fun e w'=>e=.returned (.tuple #[.int .i64 (k0:Int),.bool true])/\w'=_):=K1;clear K1 hk0 hx;by_cases hki:k0=i
      .have HB2:Hid (∀k (h:k<l.length),k<i+1->(AR l[k].name l).getD 0=k):=fun k h hk=>by
        by_cases e:k=i
        .subst e;rw[HP0.out,hki]
        .exact hp.out k h oM
       subst hki;clear T1 hp HP0;go_wp2_with(go_at_call 62;refine HK.mono ?_;rintro e w1 ⟨rfl,rfl⟩);go_roundw
       case rel=>exact⟨hb',k0+1,oM,gN,HB2.out⟩
       case measure=>simp[intOf];omega
      .have HA2:Hid (AC l=101):=by show _=_;rw[HC3.out,if_pos (T1 hki)]
       have hne:((k0:Int)==(i:Int))=false:=by rw[beq_eq_false_iff_ne];omega
       have hne':((k0:Int) != (i:Int))=true:=by rw[bne,hne];rfl
       clear T1 hp HP0;go_wp2_with(go_at_call 62;refine HK.mono ?_;rintro e w1 ⟨rfl,rfl⟩);go_ret;exact⟨DG HA2.symm,hb'⟩
     .have:i=j:=oM;subst this;have hon:B6 l=false:=Sw fun k h=>hp.out k h (by rw[<-HN.out];exact h);have HC4:Hid (AC l=if C4 l>65536 then 102 else 0):=by show _=_;rw[HC3.out,hon];rfl
      have K1:=KT.out _ (HRD.below hb');obtain⟨T,hT⟩:=gA (C4 l)
      rw[hT]at HC4 K1;have HK:Hid (Calls prog 63 #[.slice p i c] _ fun e w'=>e=.returned (.int .i64 T)/\Below _ _ w'):=K1;clear K1 hT hp hon HC3;by_cases h6:T>65536
      .have HC5:Hid (AC l=102):=by show _=_;rw[HC4.out,if_pos h6]
       have h6':(65536:Int)<T:=h6;exact Yf
      .have HC5:Hid (AC l=0):=by show _=_;rw[HC4.out,if_neg h6]
       have h6':¬ (65536:Int)<T:=h6;exact Yf
 .have h64':(64:Int)<(n:Int):=oM;have HC2:Hid (AC l=2):=by show _=_;rw[HC.out,if_pos oM]
  clear HC;go_enter func32,ntmps32;go_wp2;go_ret;exact⟨DG HC2.symm,BY _⟩
def Jt(l:List ByteArray):List Value:=l.map Value.string
def Jx(w:World)(B:Nat)(v:Value)(l:List ByteArray):Prop:=w.ownsRow B 9 1 v l.length (Jt l)
theorem Q9(w:World)(B:Nat):Jx w B (.slice none 0 0) []:=World.ownsRow_nil w B _ 1
theorem Iu{w:World}{B:Nat}{v:Value}{s:List ByteArray}{nm:ByteArray}(h:w.ownsRow B 9 1 v (s.length+1) (Jt s++[.string nm])):Jx w B v (s++[nm]):=by
 unfold Jx Jt;rw[List.length_append,List.map_append];exact h
theorem JP:(prog.info? 9).map (fun i=>(i.zero,i.size,i.bytes))=some (some (.string ⟨#[]⟩),1,16):=kR
theorem ET(s:ByteArray)(i j:Nat):bs (s.extract i j)=((bs s).drop i).take (j-i):=by
 simp[bs,ByteArray.data_extract,Array.toList_extract,List.extract]
theorem Po{s:ByteArray}{f i:Nat}(hf:f<=i)(hi:i<s.size):((bs s).drop f).take (i+1-f)=((bs s).drop f).take (i-f)++[s[i]]:=by
 have h1:i-f<((bs s).drop f).length:=by rw[List.length_drop,A9];omega
 rw[show i+1-f=(i-f)+1 by omega,Ex h1];congr 2;rw[List.getElem_drop];simp only[show f+(i-f)=i by omega];rfl
def Ci(s:ByteArray)(acc:List Bs)(f i:Nat):Prop:=
 (i<=s.size/\f<=i/\Aj [] (bs s)=acc++Aj (((bs s).drop f).take (i-f)) ((bs s).drop i))\/(i=s.size+1/\Aj [] (bs s)=acc)
theorem Ky(s:ByteArray):Ci s [] 0 0:=.inl ⟨gJ _,gF _,sM⟩
theorem RD{s:ByteArray}{acc:List Bs}{f i:Nat}(h:Ci s acc f i)(hi:i<s.size)(hc:(s[i].toNat:Int)≠32):Ci s acc f (i+1):=by
 rcases h with⟨h1,h2,h3⟩|⟨h1,_⟩
 .refine .inl ⟨hi,oM,?_⟩;rw[h3,Mn s i hi,Aj,if_neg (by simpa[nb]using hc),<-Po h2 hi]
 .omega
theorem P5{s:ByteArray}{acc:List Bs}{f i:Nat}(h:Ci s acc f i)(hi:i<s.size)(hc:(s[i].toNat:Int)=32):Ci s (acc++[((bs s).drop f).take (i-f)]) (i+1) (i+1):=by
 rcases h with⟨h1,h2,h3⟩|⟨h1,_⟩
 .refine .inl ⟨hi,gF _,?_⟩;rw[h3,Mn s i hi,Aj,if_pos (by simpa[nb]using hc)];simp
 .omega
theorem Mf{s:ByteArray}{acc:List Bs}{f:Nat}(h:Ci s acc f s.size):Ci s (acc++[((bs s).drop f).take (s.size-f)]) (s.size+1) (s.size+1):=by
 rcases h with⟨h1,h2,h3⟩|⟨h1,_⟩
 .refine .inr ⟨rfl,?_⟩;rw[h3,Pq s _ (gF _),Aj]
 .omega
def A6(x:Bs):ByteArray:=⟨x.toArray⟩
end Go.Proofs.YtjlpkjblkllfbaaGreatDoor
