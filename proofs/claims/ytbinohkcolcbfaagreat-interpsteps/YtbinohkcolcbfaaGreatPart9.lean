import Derived.Test.YtbinohkcolcbfaaGreatPart8
import Derived.Test.YtbinohkcolcbfaaGreatPart6
import Derived.Test.YtbinohkcolcbfaaGreatPart1
namespace Go.Proofs.YtbinohkcolcbfaaGreat
open Go.RowKit Go.Proofs.Tryz
set_option linter.unusedVariables false
set_option linter.unusedSimpArgs false
set_option maxRecDepth 100000
set_option maxHeartbeats 16000000
theorem Zyg(a:Int)(h0:0<=a)(h1:a<4294967296):(ng a.toNat=true/\key a= -1-(rg a.toNat:Int)/\sv a.toNat= -(mv a.toNat:Int))\/(ng a.toNat=false/\key a=(rg a.toNat:Int)/\sv a.toNat=(mv a.toNat:Int)):=by
 have hr:=Zlh a h0;rw[Zaap a h0 h1];by_cases c:2147483648<=a
 ·left;refine⟨by simpa using c,?_,?_⟩
  ·unfold key;rw[if_pos c];omega
  ·unfold sv sg;rw[Zaap a h0 h1,if_pos (by simpa using c)]
 ·right;refine⟨by simpa using c,?_,?_⟩
  ·unfold key;rw[if_neg c];omega
  ·unfold sv sg;rw[Zaap a h0 h1,if_neg (by simpa using c)]
theorem Zuc(x:Nat):mv x=0↔rg x=0:=by
 unfold mv;constructor
 ·intro h;rw[←Zpo 23]at h;exact V_inj 23 h
 ·intro h;rw[h,Zpo]
theorem Zabs(a b:Int)(h0:0<=a)(h1:a<4294967296)(g0:0<=b)(g1:b<4294967296):key a<key b↔(sv a.toNat<sv b.toNat\/(rg a.toNat=0/\rg b.toNat=0/\ng a.toNat=true/\ng b.toNat=false)):=by
 have ha:=Zyg a h0 h1;have hb:=Zyg b g0 g1;have m1:mv a.toNat<mv b.toNat↔rg a.toNat<rg b.toNat:=Zaag 23 _ _;have m2:mv b.toNat<mv a.toNat↔rg b.toNat<rg a.toNat:=Zaag 23 _ _;have z1:=Zuc a.toNat;have z2:=Zuc b.toNat;rcases ha with⟨p,q,r⟩|⟨p,q,r⟩<;>rcases hb with⟨p',q',r'⟩|⟨p',q',r'⟩<;>rw[p,q,r,p',q',r']<;>simp only[Bool.false_eq_true,Bool.true_eq_false,and_false,or_false,and_true]<;>omega
theorem Zue(a b:Int)(h0:0<=a)(h1:a<4294967296)(g0:0<=b)(g1:b<4294967296):sv a.toNat=sv b.toNat↔(a=b\/(a%2147483648=0/\b%2147483648=0)):=by
 have hr:=Zlh a h0;have hs:=Zlh b g0;constructor
 ·intro h;obtain⟨e,f⟩:=sv_inj h;rcases f with f|f
  ·exact Or.inl (pat_ext h0 h1 g0 g1 e f)
  ·right;omega
 ·rintro(h|⟨h,k⟩)
  ·rw[h]
  ·have z1:=(Zuc a.toNat).2 oM;have z2:=(Zuc b.toNat).2 oM;unfold sv sg;rw[z1,z2];simp
theorem Zaol(a b:Int)(h0:0<=a)(h1:a<4294967296)(g0:0<=b)(g1:b<4294967296)(hn:nan a=false)(hm:nan b=false):fmin a b=if key b<key a then b else a:=by
 unfold fmin;rw[Ztn a b h0 g0,if_neg (by simp[hn,hm])];have hk:=Zabs b a g0 g1 h0 h1;rcases Int.lt_trichotomy (sv a.toNat) (sv b.toNat)with c|c|c
 ·have hne:¬ (key b<key a):=by
   exact Zem
  rw[Zaam c];simp only [];rw[if_neg hne]
 ·rw[Zabk c];simp only [];rcases(Zue a b h0 h1 g0 g1).1 c with e|⟨e,f⟩
  ·subst e;split<;>simp
  ·unfold key;by_cases d1:2147483648<=a<;>by_cases d2:2147483648<=b<;>simp only[d1,d2,if_true,if_false]
   ·rw[if_neg oM]
   ·rw[if_neg oM]
   ·rw[if_pos oM]
   ·rw[if_neg oM];omega
 ·rw[Zacx c];simp only [];rw[if_pos (hk.2 (Or.inl c))]
theorem Zanb(a b:Int)(h0:0<=a)(h1:a<4294967296)(g0:0<=b)(g1:b<4294967296)(hn:nan a=false)(hm:nan b=false):fmax a b=if key b>key a then b else a:=by
 unfold fmax;rw[Ztn a b h0 g0,if_neg (by simp[hn,hm])];have hk:=Zabs a b h0 h1 g0 g1;rcases Int.lt_trichotomy (sv a.toNat) (sv b.toNat)with c|c|c
 ·rw[Zaam c];simp only [];rw[if_pos (show key b>key a from hk.2 (Or.inl c))]
 ·rw[Zabk c];simp only [];rcases(Zue a b h0 h1 g0 g1).1 c with e|⟨e,f⟩
  ·subst e;split<;>simp
  ·unfold key;by_cases d1:2147483648<=a<;>by_cases d2:2147483648<=b<;>simp only[d1,d2,if_true,if_false]
   ·rw[if_neg oM];omega
   ·rw[if_pos oM]
   ·rw[if_neg oM]
   ·rw[if_neg oM]
 ·have hne:¬ (key b>key a):=by
   show¬ (key a<key b);exact Zem
  rw[Zacx c];simp only [];rw[if_neg hne]
theorem Zamd(a b:Int)(h0:0<=a)(h1:a<4294967296)(g0:0<=b)(g1:b<4294967296)(hn:nan a=false)(hm:nan b=false):Zpf a b=(decide (key a<key b)&& !((a%2147483648==0)&&(b%2147483648==0))):=by
 have h:=Zajw a b h0 g0;have hk:=Zabs a b h0 h1 g0 g1;have hr:=Zlh a h0;have hs:=Zlh b g0;have hz:=Zue a b h0 h1 g0 g1;simp only[hn,hm,true_and]at h;rw[Bool.eq_iff_iff,h];simp only[Bool.and_eq_true,decide_eq_true_eq,Bool.not_eq_true',Bool.and_eq_false_iff,beq_eq_false_iff_ne];constructor
 ·intro c;refine⟨hk.2 (Or.inl c),?_⟩;by_cases e:a%2147483648=0
  ·right;intro f;have:=hz.2 (Or.inr ⟨e,f⟩);omega
  ·exact Or.inl e
 ·rintro⟨c,d⟩;rcases hk.1 c with e|⟨e1,e2,-,-⟩
  ·exact e
  ·exfalso;rcases d with d|d<;>omega
theorem Zoe(a b:Int)(h0:0<=a)(g0:0<=b)(h:nan a=true\/nan b=true):Zpf a b=false/\feq a b=false/\fmin a b=2143289344/\fmax a b=2143289344:=by
 unfold Zpf feq fmin fmax;rw[Ztn a b h0 g0,if_pos h];exact⟨rfl,rfl,rfl,rfl⟩
theorem Zty(a:Int)(h0:0<=a)(h1:a<4294967296)(w:World):
 Calls prog 157 #[.int .i64 a] w fun e w'=>e=.returned (.int .i64 (key a))/\w'=w:=by
 have hx:=Zpq a h0 h1;unfold key;by_cases c:2147483648<=a
 ·have h2:a/2147483648=1:=oM;rw[if_pos c];go_enter func157,ntmps157;go_wp2;go_ret;exact⟨Zss oM,rfl⟩
 ·have h2:a/2147483648=0:=oM;rw[if_neg c];go_enter func157,ntmps157;go_wp2;go_ret;exact⟨Zss oM,rfl⟩
theorem Zrj(a:Int)(h0:0<=a)(h1:a<4294967296)(w:World):
 Calls prog 194 #[.int .i64 a] w fun e w'=>e=.returned (.bool (a%2147483648==0))/\w'=w:=by
 have hx:=Zpq a h0 h1;go_enter func194,ntmps194;go_wp2;go_ret;exact⟨rfl,rfl⟩
theorem Zro(a:Int)(h0:0<=a)(h1:a<4294967296)(w:World):
 Calls prog 103 #[.int .i64 a] w fun e w'=>e=.returned (.int .i64 (canon a))/\Below w.heap.size w w':=by
 have hf:=Zrf;unfold canon;rw[←Zku a h0 h1];cases hna:nNan a
 ·rw[if_neg dE];go_enter func103,ntmps103;exact Zbd
 ·rw[if_pos rfl];go_enter func103,ntmps103;exact Zbd
theorem Zadf(a:Int)(h0:0<=a)(h1:a<4294967296)(b:Int)(g0:0<=b)(g1:b<4294967296)(w:World):
 Calls prog 126 #[.int .i64 a,.int .i64 b] w fun e w'=>e=.returned (.int .i64 (fmin a b))/\Below w.heap.size w w':=by
 have ea:=Zku a h0 h1;have eb:=Zku b g0 g1;cases hna:nNan a
 ·cases hnb:nNan b
  ·rw[Zaol a b h0 h1 g0 g1 Zhf Zhe];clear ea eb;by_cases c:key b<key a
   ·rw[if_pos c];go_enter func126,ntmps126;exact Zau
   ·rw[if_neg c];go_enter func126,ntmps126;exact Zau
  ·rw[(Zoe a b h0 g0 (Or.inr Zhe)).2.2.1];clear ea eb;go_enter func126,ntmps126;exact Zau
 ·rw[(Zoe a b h0 g0 (Or.inl Zhf)).2.2.1];clear ea eb;go_enter func126,ntmps126;exact Zau
theorem Zapm(a:Int)(h0:0<=a)(h1:a<4294967296)(b:Int)(g0:0<=b)(g1:b<4294967296)(w:World):
 Calls prog 185 #[.int .i64 a,.int .i64 b] w fun e w'=>e=.returned (.int .i64 (fmax a b))/\Below w.heap.size w w':=by
 have ea:=Zku a h0 h1;have eb:=Zku b g0 g1;cases hna:nNan a
 ·cases hnb:nNan b
  ·rw[Zanb a b h0 h1 g0 g1 Zhf Zhe];clear ea eb;by_cases c:key b>key a
   ·rw[if_pos c];go_enter func185,ntmps185;exact Zau
   ·rw[if_neg c];go_enter func185,ntmps185;exact Zau
  ·rw[(Zoe a b h0 g0 (Or.inr Zhe)).2.2.2];clear ea eb;go_enter func185,ntmps185;exact Zau
 ·rw[(Zoe a b h0 g0 (Or.inl Zhf)).2.2.2];clear ea eb;go_enter func185,ntmps185;exact Zau
theorem Zajm(a:Int)(h0:0<=a)(h1:a<4294967296)(b:Int)(g0:0<=b)(g1:b<4294967296)(w:World):
 Calls prog 186 #[.int .i64 a,.int .i64 b] w fun e w'=>e=.returned (.bool (Zpf a b))/\Below w.heap.size w w':=by
 have ea:=Zku a h0 h1;have eb:=Zku b g0 g1;cases hna:nNan a
 ·cases hnb:nNan b
  ·rw[Zamd a b h0 h1 g0 g1 Zhf Zhe];clear ea eb;cases za:(a%2147483648==0)<;>cases zb:(b%2147483648==0)<;>simp only[Bool.and_true,Bool.and_false,Bool.not_true,Bool.not_false]
   all_goals(
    go_enter func186,ntmps186;go_wp2_with(first
     |(go_at_call 135;refine(Zlz _ oM oM _).mono ?_;rintro e w' ⟨rfl,o,rfl⟩)
     |(go_at_call 151;refine(Zms _ _ _ _ _ _ _ _ _ _ _).mono ?_;rintro e w' ⟨rfl,o,p,rfl⟩)
     |(go_at_call 157;refine(Zty _ oM oM _).mono ?_;rintro e w' ⟨rfl,rfl⟩)
     |(go_at_call 194;refine(Zrj _ oM oM _).mono ?_;rintro e w' ⟨rfl,rfl⟩))
    go_ret
    exact⟨rfl,gG⟩)
  ·rw[(Zoe a b h0 g0 (Or.inr Zhe)).1];exact Zch
 ·rw[(Zoe a b h0 g0 (Or.inl Zhf)).1];exact Zch
theorem Zadu(c:Int)(e0:0<=c)(e1:c<4294967296)(a:Int)(h0:0<=a)(h1:a<4294967296)(b:Int)(g0:0<=b)(g1:b<4294967296)(w:World):
 Calls prog 187 #[.int .i64 c,.int .i64 a,.int .i64 b] w fun e w'=>e=.returned (.int .i64 (fsel c a b))/\Below w.heap.size w w':=by
 have hf:=Zrf;unfold fsel;rw[←Zku c e0 e1];cases hn:nNan c<;>cases hz:(c%2147483648==0)<;>simp only[Bool.or_true,Bool.or_false,if_true,if_false,Bool.false_eq_true]
 all_goals(
  go_enter func187,ntmps187;go_wp2_with(first
   |(go_at_call 135;refine(Zlz _ oM oM _).mono ?_;rintro e w' ⟨rfl,o,rfl⟩)
   |(go_at_call 194;refine(Zrj _ oM oM _).mono ?_;rintro e w' ⟨rfl,rfl⟩)
   |(go_at_call 103;refine(Zro _ oM oM _).mono ?_;rintro e w1 ⟨rfl,hb1⟩))
  go_ret
  exact⟨rfl,belV gG hb1⟩)
theorem Zoy(a:Int)(h0:0<=a)(h1:a<4294967296)(w:World):Calls prog 63 #[.int .u32 a] w fun e w'=>e=.returned (.bool (Zko a))/\Below w.heap.size w w':=by
 have hc:Zko a=(canon a==a):=by unfold Zko canon;cases nan a<;>rw[Bool.eq_iff_iff]<;>simp
 rw[hc];have HK:Hid (∀w,Calls prog 103 #[.int .i64 a] w fun e w'=>e=.returned (.int .i64 (canon a))/\Below w.heap.size w w'):=Zro a h0 h1;have hw:IntKind.i64.wrap a=a:=by rw[IntKind.wrap_i64];omega
 clear hc;obtain⟨x,hx⟩:∃x,canon a=x:=⟨_,rfl⟩
 rw[hx]at HK ⊢;clear hx;go_enter func63,ntmps63;go_wp2_with(go_at_call 103;refine(HK.out _).mono ?_;rintro e w1 ⟨rfl,hb1⟩;have HB1:Hid _:=hb1;clear hb1);go_ret;exact⟨rfl,HB1.out⟩
theorem Zacm(s:Sl)(h0:0<=s.bits)(h1:s.bits<4294967296)(p:Option Addr)(n c:Nat)(hn:n<=140737488351232)(w:World):
 Calls prog 36 #[slV s,.slice p n c] w fun e w'=>e=.returned (.bool (Zjg s n))/\Below w.heap.size w w':=by
 have HK:Hid (∀w,Calls prog 63 #[.int .u32 s.bits] w fun e w'=>e=.returned (.bool (Zko s.bits))/\Below w.heap.size w w'):=Zoy s.bits h0 h1;have HT:Hid (∀w,Calls prog 35 #[tyV s.ty,.slice p n c] w fun e w'=>e=.returned (.bool (Zil s.ty n))/\Below w.heap.size w w'):=Ztq s.ty p n c hn;obtain⟨⟨K,P⟩,Q,B,I⟩:=s;unfold Zjg Znj slV Zlr;unfold tyV at HT;simp only at HK HT h0 h1 ⊢;obtain⟨X,hX⟩:∃X,Zko B=X:=⟨_,rfl⟩
 obtain⟨Y,hY⟩:∃Y,Zil ⟨K,P⟩ n=Y:=⟨_,rfl⟩
 rw[hX]at HK ⊢;rw[hY]at HT ⊢;clear hX hY;cases Y
 ·rw[Bool.false_and];exact Zbo
 ·rw[Bool.true_and];by_cases h2:K=2
  ·subst h2;rw[if_pos rfl];cases hb:(B==0)
   ·have hb':(B != 0)=true:=by simpa using hb
    exact Zbp
   ·by_cases hi:0<=I
    all_goals
     exact Zbp
  ·rw[if_neg h2];have h2':(K==2)=false:=by simpa using h2
   clear h2;cases hi:(I==0)
   all_goals
    exact Zbo
structure Lt where
 a:Int
 b:Int
 c:Int
 d:Int
 e:Int
def ltR(op:Int):Lt:=
 if op=1 then⟨110,45,45,45,45⟩
 else if op=2 then⟨119,45,45,45,105⟩
 else if op=3 then⟨97,99,45,45,45⟩
 else if 4<=op/\op<=10 then⟨100,120,120,45,45⟩
 else if 11<=op/\op<=14 then⟨100,120,45,45,45⟩
 else if op=15 then⟨100,120,120,120,45⟩
 else if op=16 then⟨110,110,119,45,45⟩
 else if op=17 then⟨110,119,45,45,45⟩
 else if op=18 then⟨119,110,45,45,45⟩
 else if 19<=op/\op<=20 then⟨110,118,45,45,45⟩
 else if op=21\/op=25 then⟨119,119,45,45,45⟩
 else if op=26 then⟨119,119,119,119,45⟩
 else if 22<=op/\op<=28 then⟨119,119,119,45,45⟩
 else if 29<=op/\op<=30 then⟨118,45,45,45,112⟩
 else if op=31 then⟨45,118,45,45,112⟩
 else if op=32 then⟨97,45,45,45,115⟩
 else if op=33 then⟨45,97,45,45,115⟩
 else if op=34 then⟨45,119,45,45,45⟩
 else if op=36 then⟨45,45,45,45,113⟩
 else⟨45,45,45,45,45⟩
def dR(rs:List Ty)(l D:Int):Ty:=if l=45 then⟨0,0⟩else regT rs D
def tR(rs:List Ty)(l0 l1 D A:Int):Ty:=if l0=45/\l1≠45 then regT rs A else dR rs l0 D
def Zlk(c:Cd)(l n:Int)(t:Ty):Bool:=
 if l=105 then Zlr n
 else if l=112 then n==0||(n==1&&Zkv c.sign t.par==2)
 else if l=115 then isPl n c.slots.length&&decide (slotT c.slots n=t)
 else if l=113 then isPl n c.sign.length
 else n==0
def Zmo(c:Cd)(i:Ins)(L:Lt):Bool:=
 (i.op==1||i.bits==0)&&(Zko i.bits&&(Zhz c.regs L.a i.d ⟨0,0⟩&&(Zhz c.regs L.b i.a (dR c.regs L.a i.d)&&(Zhz c.regs L.c i.b (dR c.regs L.a i.d)&&(Zhz c.regs L.d i.c (dR c.regs L.a i.d)&&Zlk c L.e i.n (tR c.regs L.a L.b i.d i.a))))))
theorem Zafz{c:Cd}(h:Zif c=true){n:Int}(hp:isPl n c.regs.length=true):Zil (regT c.regs n) c.sign.length=true:=by
 obtain⟨k,rfl,hk⟩:=Zly hp;rw[Zox rfl hk];unfold Zif at h;exact List.all_eq_true.1 h _ (List.getElem_mem hk)
theorem Zaen{c:Cd}(h:Zif c=true){n:Int}(hp:isPl n c.regs.length=true)(hk:(regT c.regs n).kind=1):(regT c.regs n).par=0:=by
 have:=Zafz h hp;unfold Zil at this;rw[if_pos (.inl hk)]at this;simpa using this
theorem x_eq{c:Cd}(h:Zif c=true){n m:Int}(hn:isPl n c.regs.length=true)(hm:isPl m c.regs.length=true)(hk:((regT c.regs m).kind==1||(regT c.regs m).kind==3)=true):
 ((regT c.regs n).kind==1||decide (regT c.regs n=regT c.regs m))=(decide (regT c.regs n=regT c.regs m)||((regT c.regs n).kind==1&&(regT c.regs m).kind==3)):=by
 have h1:=Zaen h hn;have h2:=Zaen h hm;generalize regT c.regs n=t at *;generalize regT c.regs m=d at *;obtain⟨K,P⟩:=t;obtain⟨A,B⟩:=d;simp only at h1 h2 hk ⊢;rw[Bool.eq_iff_iff];simp only[Bool.or_eq_true,beq_iff_eq,decide_eq_true_eq,Bool.and_eq_true,Ty.mk.injEq]at hk ⊢;constructor
 ·rintro(e|e)
  ·rcases hk with k|k
   ·exact .inl ⟨oM,by rw[h1 e,h2 k]⟩
   ·exact .inr ⟨e,k⟩
  ·exact .inl e
 ·rintro(e|e)
  ·exact .inr e
  ·exact .inl e.1
theorem told0:Zko 0=true:=dE
theorem Zou(rs:List Ty)(n:Int)(d:Ty):Zhz rs 45 n d=(n==0):=if_pos rfl
theorem Zqc(rs:List Ty)(n:Int)(d:Ty):Zhx rs 0 n d=(n==0):=if_pos rfl
theorem Zla{l:Int}(h:l≠0)(rs:List Ty)(n:Int)(d:Ty):Zhx rs l n d=(isPl n rs.length&&Zjj l (regT rs n) d):=if_neg h
theorem Zkq{l:Int}(h:l≠45)(rs:List Ty)(n:Int)(d:Ty):Zhz rs l n d=(isPl n rs.length&&letR l (regT rs n) d):=if_neg h
theorem Zrt(rs:List Ty)(n:Int)(d m:Ty):Zhz rs 110 n d=Zhx rs 1 n m:=by rw[Zkq dE,Zla dE];rfl
theorem Zlq(rs:List Ty)(n:Int)(d m:Ty):Zhz rs 119 n d=Zhx rs 2 n m:=by rw[Zkq dE,Zla dE];rfl
theorem Zact(rs:List Ty)(n:Int)(d m:Ty):Zhz rs 118 n d=Zhx rs 3 n m:=by rw[Zkq dE,Zla dE];rfl
theorem Zacb(rs:List Ty)(n:Int)(d m:Ty):Zhz rs 100 n d=Zhx rs 4 n m:=by rw[Zkq dE,Zla dE];rfl
theorem Zii(rs:List Ty)(n:Int)(d m:Ty):Zhz rs 45 n d=Zhx rs 0 n m:=by rw[Zou,Zqc]
theorem Zaay(rs:List Ty)(n:Int)(d:Ty):Zhz rs 97 n d=Zhx rs 6 n (regT rs n):=by rw[Zkq dE,Zla dE];simp[letR,Zjj]
theorem oper_c(rs:List Ty)(n:Int)(d:Ty):Zhz rs 99 n d=Zhx rs 5 n d:=by rw[Zkq dE,Zla dE];simp[letR,Zjj]
theorem oper_x{c:Cd}(h:Zif c=true)(n:Int){m:Int}(hd:Zhx c.regs 4 m (regT c.regs m)=true):Zhz c.regs 120 n (regT c.regs m)=Zhx c.regs 5 n (regT c.regs m):=by
 rw[Zkq dE,Zla dE];rw[Zla dE]at hd;simp only[Bool.and_eq_true]at hd;cases hn:isPl n c.regs.length
 ·rfl
 ·rw[Bool.true_and,Bool.true_and];exact x_eq h hn hd.1 hd.2
theorem Zjn{c:Cd}{i:Ins}{L:Lt}{R:Rw}(h1:i.op≠1)(h7:R.n≠7)(ha:Zhz c.regs L.a i.d ⟨0,0⟩=Zhx c.regs R.d i.d (Zij c.regs i R))
 (hb:Zhx c.regs R.d i.d (Zij c.regs i R)=true->Zhz c.regs L.b i.a (dR c.regs L.a i.d)=Zhx c.regs R.a i.a (Zij c.regs i R))
 (hc:Zhx c.regs R.d i.d (Zij c.regs i R)=true->Zhz c.regs L.c i.b (dR c.regs L.a i.d)=Zhx c.regs R.b i.b (Zij c.regs i R))
 (hd:Zhx c.regs R.d i.d (Zij c.regs i R)=true->Zhz c.regs L.d i.c (dR c.regs L.a i.d)=Zhx c.regs R.c i.c (Zij c.regs i R))
 (he:Zlk c L.e i.n (tR c.regs L.a L.b i.d i.a)=Zpd c i.n R.n (Zij c.regs i R)):Zmo c i L=Zjp c i R:=by
 unfold Zmo Zjp Zkg;rw[if_neg h7,ha,he];have:(i.op==1)=false:=by simpa using h1
 rw[this,Bool.false_or];cases hX:Zhx c.regs R.d i.d (Zij c.regs i R)
 ·simp
 ·rw[hb hX,hc hX,hd hX];cases hb:(i.bits==0)
  ·simp
  ·have:i.bits=0:=by simpa using hb
   rw[this,told0];simp
theorem Zabg{c:Cd}(h:Zif c=true)(i:Ins):Zmo c i (ltR i.op)=Zjp c i (rowP i.op):=by
 have x:=fun n=>@oper_x c h n i.d;by_cases h1:i.op=1
 ·have e1:ltR i.op=⟨110,45,45,45,45⟩:=by rw[h1];rfl
  have e2:rowP i.op=⟨1,0,0,0,7⟩:=by rw[h1];rfl
  rw[e1,e2];unfold Zmo Zjp Zkg;simp only;rw[h1,Zrt _ _ _ (Zij c.regs i ⟨1,0,0,0,7⟩),Zou,Zou,Zou,Zqc,Zqc,Zqc];rw[show Zlk c 45 i.n (tR c.regs 110 45 i.d i.a)=(i.n==0)from rfl];generalize Zhx c.regs 1 i.d _=A1;cases A1<;>cases Zko i.bits<;>simp
 unfold ltR rowP;rw[if_neg h1,if_neg h1];by_cases h2:i.op=2
 ·rw[if_pos h2,if_pos h2];exact Zjn h1 dE (Zlq _ _ _ _) (fun _=>Zii _ _ _ _) (fun _=>Zii _ _ _ _) (fun _=>Zii _ _ _ _) rfl
 rw[if_neg h2,if_neg h2];by_cases h3:i.op=3
 ·rw[if_pos h3,if_pos h3];exact Zjn h1 dE (Zaay _ _ _) (fun _=>oper_c _ _ _) (fun _=>Zii _ _ _ _) (fun _=>Zii _ _ _ _) rfl
 rw[if_neg h3,if_neg h3];by_cases h4:4<=i.op/\i.op<=10
 ·rw[if_pos h4,if_pos h4];exact Zjn h1 dE (Zacb _ _ _ _) (x _) (x _) (fun _=>Zii _ _ _ _) rfl
 rw[if_neg h4,if_neg h4];by_cases h5:11<=i.op/\i.op<=14
 ·rw[if_pos h5,if_pos h5];exact Zjn h1 dE (Zacb _ _ _ _) (x _) (fun _=>Zii _ _ _ _) (fun _=>Zii _ _ _ _) rfl
 rw[if_neg h5,if_neg h5];by_cases h6:i.op=15
 ·rw[if_pos h6,if_pos h6];exact Zjn h1 dE (Zacb _ _ _ _) (x _) (x _) (x _) rfl
 rw[if_neg h6,if_neg h6];by_cases h7:i.op=16
 ·rw[if_pos h7,if_pos h7];exact Zjn h1 dE (Zrt _ _ _ _) (fun _=>Zrt _ _ _ _) (fun _=>Zlq _ _ _ _) (fun _=>Zii _ _ _ _) rfl
 rw[if_neg h7,if_neg h7];by_cases h8:i.op=17
 ·rw[if_pos h8,if_pos h8];exact Zjn h1 dE (Zrt _ _ _ _) (fun _=>Zlq _ _ _ _) (fun _=>Zii _ _ _ _) (fun _=>Zii _ _ _ _) rfl
 rw[if_neg h8,if_neg h8];by_cases h9:i.op=18
 ·rw[if_pos h9,if_pos h9];exact Zjn h1 dE (Zlq _ _ _ _) (fun _=>Zrt _ _ _ _) (fun _=>Zii _ _ _ _) (fun _=>Zii _ _ _ _) rfl
 rw[if_neg h9,if_neg h9];by_cases h10:19<=i.op/\i.op<=20
 ·rw[if_pos h10,if_pos h10];exact Zjn h1 dE (Zrt _ _ _ _) (fun _=>Zact _ _ _ _) (fun _=>Zii _ _ _ _) (fun _=>Zii _ _ _ _) rfl
 rw[if_neg h10,if_neg h10];by_cases h11:i.op=21\/i.op=25
 ·rw[if_pos h11,if_pos h11];exact Zjn h1 dE (Zlq _ _ _ _) (fun _=>Zlq _ _ _ _) (fun _=>Zii _ _ _ _) (fun _=>Zii _ _ _ _) rfl
 rw[if_neg h11,if_neg h11];by_cases h12:i.op=26
 ·rw[if_pos h12,if_pos h12];exact Zjn h1 dE (Zlq _ _ _ _) (fun _=>Zlq _ _ _ _) (fun _=>Zlq _ _ _ _) (fun _=>Zlq _ _ _ _) rfl
 rw[if_neg h12,if_neg h12];by_cases h13:22<=i.op/\i.op<=28
 ·rw[if_pos h13,if_pos h13];exact Zjn h1 dE (Zlq _ _ _ _) (fun _=>Zlq _ _ _ _) (fun _=>Zlq _ _ _ _) (fun _=>Zii _ _ _ _) rfl
 rw[if_neg h13,if_neg h13];by_cases h14:29<=i.op/\i.op<=30
 ·rw[if_pos h14,if_pos h14];exact Zjn h1 dE (Zact _ _ _ _) (fun _=>Zii _ _ _ _) (fun _=>Zii _ _ _ _) (fun _=>Zii _ _ _ _) rfl
 rw[if_neg h14,if_neg h14];by_cases h15:i.op=31
 ·rw[if_pos h15,if_pos h15];exact Zjn h1 dE (Zii _ _ _ _) (fun _=>Zact _ _ _ _) (fun _=>Zii _ _ _ _) (fun _=>Zii _ _ _ _) rfl
 rw[if_neg h15,if_neg h15];by_cases h16:i.op=32
 ·rw[if_pos h16,if_pos h16];exact Zjn h1 dE (Zaay _ _ _) (fun _=>Zii _ _ _ _) (fun _=>Zii _ _ _ _) (fun _=>Zii _ _ _ _) rfl
 rw[if_neg h16,if_neg h16];by_cases h17:i.op=33
 ·rw[if_pos h17,if_pos h17];exact Zjn h1 dE (Zii _ _ _ _) (fun _=>Zaay _ _ _) (fun _=>Zii _ _ _ _) (fun _=>Zii _ _ _ _) rfl
 rw[if_neg h17,if_neg h17];by_cases h18:i.op=34
 ·rw[if_pos h18,if_pos h18];exact Zjn h1 dE (Zii _ _ _ _) (fun _=>Zlq _ _ _ _) (fun _=>Zii _ _ _ _) (fun _=>Zii _ _ _ _) rfl
 rw[if_neg h18,if_neg h18];by_cases h19:i.op=36
 ·rw[if_pos h19,if_pos h19];exact Zfi
 rw[if_neg h19,if_neg h19];exact Zfi
theorem Zafs(op:Int)(hk:Zih op=true):∃a b c d e:UInt8,((a.toNat:Int)=(ltR op).a/\(b.toNat:Int)=(ltR op).b/\(c.toNat:Int)=(ltR op).c/\(d.toNat:Int)=(ltR op).d/\(e.toNat:Int)=(ltR op).e)/\∀w,Calls prog 67 #[.int .i64 op] w fun x w'=>x=.returned (.tuple #[.string ⟨#[a,b,c,d,e]⟩,.bool true])/\w'=w:=by
 have hh:1<=op/\op<=37:=by unfold Zih at hk;simp at hk;omega
 clear hk;have:op=1\/op=2\/op=3\/op=4\/op=5\/op=6\/op=7\/op=8\/op=9\/op=10\/op=11\/op=12\/op=13\/op=14\/op=15\/op=16\/op=17\/op=18\/op=19\/op=20\/op=21\/op=22\/op=23\/op=24\/op=25\/op=26\/op=27\/op=28\/op=29\/op=30\/op=31\/op=32\/op=33\/op=34\/op=35\/op=36\/op=37:=oM;rcases this with rfl|rfl|rfl|rfl|rfl|rfl|rfl|rfl|rfl|rfl|rfl|rfl|rfl|rfl|rfl|rfl|rfl|rfl|rfl|rfl|rfl|rfl|rfl|rfl|rfl|rfl|rfl|rfl|rfl|rfl|rfl|rfl|rfl|rfl|rfl|rfl|rfl
 ·exact⟨_,_,_,_,_,⟨rfl,rfl,rfl,rfl,rfl⟩,fun w=>rrow_1 w⟩
 ·exact⟨_,_,_,_,_,⟨rfl,rfl,rfl,rfl,rfl⟩,fun w=>rrow_2 w⟩
 ·exact⟨_,_,_,_,_,⟨rfl,rfl,rfl,rfl,rfl⟩,fun w=>rrow_3 w⟩
 ·exact⟨_,_,_,_,_,⟨rfl,rfl,rfl,rfl,rfl⟩,fun w=>rrow_4 w⟩
 ·exact⟨_,_,_,_,_,⟨rfl,rfl,rfl,rfl,rfl⟩,fun w=>rrow_5 w⟩
 ·exact⟨_,_,_,_,_,⟨rfl,rfl,rfl,rfl,rfl⟩,fun w=>rrow_6 w⟩
 ·exact⟨_,_,_,_,_,⟨rfl,rfl,rfl,rfl,rfl⟩,fun w=>rrow_7 w⟩
 ·exact⟨_,_,_,_,_,⟨rfl,rfl,rfl,rfl,rfl⟩,fun w=>rrow_8 w⟩
 ·exact⟨_,_,_,_,_,⟨rfl,rfl,rfl,rfl,rfl⟩,fun w=>rrow_9 w⟩
 ·exact⟨_,_,_,_,_,⟨rfl,rfl,rfl,rfl,rfl⟩,fun w=>Zaer w⟩
 ·exact⟨_,_,_,_,_,⟨rfl,rfl,rfl,rfl,rfl⟩,fun w=>Zafj w⟩
 ·exact⟨_,_,_,_,_,⟨rfl,rfl,rfl,rfl,rfl⟩,fun w=>Zaec w⟩
 ·exact⟨_,_,_,_,_,⟨rfl,rfl,rfl,rfl,rfl⟩,fun w=>Zafr w⟩
 ·exact⟨_,_,_,_,_,⟨rfl,rfl,rfl,rfl,rfl⟩,fun w=>Zafu w⟩
 ·exact⟨_,_,_,_,_,⟨rfl,rfl,rfl,rfl,rfl⟩,fun w=>Zaey w⟩
 ·exact⟨_,_,_,_,_,⟨rfl,rfl,rfl,rfl,rfl⟩,fun w=>Zaee w⟩
 ·exact⟨_,_,_,_,_,⟨rfl,rfl,rfl,rfl,rfl⟩,fun w=>Zaew w⟩
 ·exact⟨_,_,_,_,_,⟨rfl,rfl,rfl,rfl,rfl⟩,fun w=>Zaep w⟩
 ·exact⟨_,_,_,_,_,⟨rfl,rfl,rfl,rfl,rfl⟩,fun w=>Zaes w⟩
 ·exact⟨_,_,_,_,_,⟨rfl,rfl,rfl,rfl,rfl⟩,fun w=>Zafg w⟩
 ·exact⟨_,_,_,_,_,⟨rfl,rfl,rfl,rfl,rfl⟩,fun w=>Zafl w⟩
 ·exact⟨_,_,_,_,_,⟨rfl,rfl,rfl,rfl,rfl⟩,fun w=>Zafe w⟩
 ·exact⟨_,_,_,_,_,⟨rfl,rfl,rfl,rfl,rfl⟩,fun w=>Zafc w⟩
 ·exact⟨_,_,_,_,_,⟨rfl,rfl,rfl,rfl,rfl⟩,fun w=>Zafy w⟩
 ·exact⟨_,_,_,_,_,⟨rfl,rfl,rfl,rfl,rfl⟩,fun w=>Zaeg w⟩
 ·exact⟨_,_,_,_,_,⟨rfl,rfl,rfl,rfl,rfl⟩,fun w=>Zaem w⟩
 ·exact⟨_,_,_,_,_,⟨rfl,rfl,rfl,rfl,rfl⟩,fun w=>Zafq w⟩
 ·exact⟨_,_,_,_,_,⟨rfl,rfl,rfl,rfl,rfl⟩,fun w=>Zaeq w⟩
 ·exact⟨_,_,_,_,_,⟨rfl,rfl,rfl,rfl,rfl⟩,fun w=>Zaef w⟩
 ·exact⟨_,_,_,_,_,⟨rfl,rfl,rfl,rfl,rfl⟩,fun w=>Zagg w⟩
 ·exact⟨_,_,_,_,_,⟨rfl,rfl,rfl,rfl,rfl⟩,fun w=>Zafa w⟩
 ·exact⟨_,_,_,_,_,⟨rfl,rfl,rfl,rfl,rfl⟩,fun w=>Zadz w⟩
 ·exact⟨_,_,_,_,_,⟨rfl,rfl,rfl,rfl,rfl⟩,fun w=>Zaek w⟩
 ·exact⟨_,_,_,_,_,⟨rfl,rfl,rfl,rfl,rfl⟩,fun w=>Zaeh w⟩
 ·exact⟨_,_,_,_,_,⟨rfl,rfl,rfl,rfl,rfl⟩,fun w=>Zafi w⟩
 ·exact⟨_,_,_,_,_,⟨rfl,rfl,rfl,rfl,rfl⟩,fun w=>Zagi w⟩
 ·exact⟨_,_,_,_,_,⟨rfl,rfl,rfl,rfl,rfl⟩,fun w=>Zafd w⟩
def Zka(b:Int):Prop:=b=45\/b=110\/b=119\/b=118\/b=100\/b=120\/b=99\/b=97
instance (b:Int):Decidable (Zka b):=by unfold Zka;infer_instance
def okL(L:Lt):Bool:=decide (Zka L.a)&&(decide (Zka L.b)&&(decide (Zka L.c)&&(decide (Zka L.d)&&(decide (L.e=45\/L.e=105\/L.e=112\/L.e=115\/L.e=113)&&decide (L.e=112->L.a=118\/(L.a=45/\L.b=118))))))
theorem okL_ite{p:Prop}[Decidable p]{x y:Lt}(h:okL x=true)(k:okL y=true):okL (if p then x else y)=true:=by
 split
 ·exact h
 ·exact k
theorem ltR_okL(op:Int):okL (ltR op)=true:=by
 unfold ltR
 iterate 19 refine okL_ite dE ?_
 decide
theorem ltR_ok(op:Int):Zka (ltR op).a/\Zka (ltR op).b/\Zka (ltR op).c/\Zka (ltR op).d/\((ltR op).e=45\/(ltR op).e=105\/(ltR op).e=112\/(ltR op).e=115\/(ltR op).e=113)/\((ltR op).e=112->(ltR op).a=118\/((ltR op).a=45/\(ltR op).b=118)):=by
 have:=ltR_okL op;unfold okL at this;simp only[Bool.and_eq_true,decide_eq_true_eq]at this;exact this
theorem Zaqn(v0 v1 v2 v3:Value)(i:Ins)(h0:0<=i.bits)(h1:i.bits<4294967296)(h:(Zih i.op&&((i.op==1||i.bits==0)&&Zko i.bits))=false)(w:World):
 Calls prog 64 #[.agg #[v0,v1,v2,v3],insV i] w fun e w'=>e=.returned (.bool false)/\Below w.heap.size w w':=by
 have HCAN:Hid (∀w,Calls prog 63 #[.int .u32 i.bits] w fun e w'=>e=.returned (.bool (Zko i.bits))/\Below w.heap.size w w'):=Zoy i.bits h0 h1;cases hk:Zih i.op
 ·have HROW:Hid (∀w,Calls prog 67 #[.int .i64 i.op] w fun e w'=>e=.returned (.tuple #[.string ⟨#[]⟩,.bool false])/\w'=w):=Zyn i.op hk;obtain⟨op,D,A,B,E,n,bt⟩:=i;unfold insV;simp only at HROW HCAN ⊢;clear h hk;go_enter func64,ntmps64;go_wp2_with(go_at_call 67;refine(HROW.out _).mono ?_;rintro e w1 ⟨rfl,rfl⟩);go_ret;exact Zcb
 ·obtain⟨a,b,c,d,e,-,hc⟩:=Zafs i.op hk;have HROW:Hid (∀w,Calls prog 67 #[.int .i64 i.op] w fun x w'=>x=.returned (.tuple #[.string ⟨#[a,b,c,d,e]⟩,.bool true])/\w'=w):=hc;rw[hk,Bool.true_and]at h;clear hc hk;obtain⟨op,D,A,B,E,n,bt⟩:=i;unfold insV;simp only at HROW HCAN h ⊢;cases ho:(op==1)
  ·have ho':(op != 1)=true:=by simpa using ho
   cases hz:(bt==0)
   ·have hz':(bt != 0)=true:=by simpa using hz
    clear h;go_enter func64,ntmps64;go_wp2_with(go_at_call 67;refine(HROW.out _).mono ?_;rintro e w1 ⟨rfl,rfl⟩);go_ret;exact Zcb
   ·rw[ho,hz,Bool.false_or,Bool.true_and]at h;rw[h]at HCAN;have hz':(bt != 0)=false:=by simpa using hz
    exact Zcy
  ·rw[ho,Bool.true_or,Bool.true_and]at h;rw[h]at HCAN;have ho':(op != 1)=false:=by simpa using ho
   exact Zcy
structure TW(w:World)(v0 v1 v2 v3:Value)(J:Nat)(op D A B E n bt:Int)(v:World):Prop where
 bel:Below w.heap.size w v
 c0:v.cell? ⟨w.heap.size,0,none⟩=some v0
 c1:v.cell? ⟨w.heap.size,1,none⟩=some v1
 c2:v.cell? ⟨w.heap.size,2,none⟩=some v2
 c3:v.cell? ⟨w.heap.size,3,none⟩=some v3
 i0:v.cell? ⟨J,0,none⟩=some (.int .i64 op)
 i1:v.cell? ⟨J,1,none⟩=some (.int .i64 D)
 i2:v.cell? ⟨J,2,none⟩=some (.int .i64 A)
 i3:v.cell? ⟨J,3,none⟩=some (.int .i64 B)
 i4:v.cell? ⟨J,4,none⟩=some (.int .i64 E)
 i5:v.cell? ⟨J,5,none⟩=some (.int .i64 n)
 i6:v.cell? ⟨J,6,none⟩=some (.int .u32 bt)
theorem TW.next{w:World}{v0 v1 v2 v3:Value}{J:Nat}{op D A B E n bt:Int}{v v':World}(h:TW w v0 v1 v2 v3 J op D A B E n bt v)(k:Below v.heap.size v v'):TW w v0 v1 v2 v3 J op D A B E n bt v':=
 ⟨Go.Proofs.YtbinohkcolcbfaaGreat.bel h.bel k,kc k h.c0,kc k h.c1,kc k h.c2,kc k h.c3,kc k h.i0,kc k h.i1,kc k h.i2,kc k h.i3,kc k h.i4,kc k h.i5,kc k h.i6⟩
theorem TW.keep{w:World}{v0 v1 v2 v3:Value}{J:Nat}{op D A B E n bt:Int}{v:World}(h:TW w v0 v1 v2 v3 J op D A B E n bt v){g o:Nat}(x:Value)(h1:w.heap.size<g)(h2:g≠J):TW w v0 v1 v2 v3 J op D A B E n bt (v.setCell ⟨g,o,none⟩ x):=by
 have f1:∀j,(v.setCell ⟨g,o,none⟩ x).cell? ⟨w.heap.size,j,none⟩=v.cell? ⟨w.heap.size,j,none⟩:=fun j=>World.cell?_of_block (Below.heap_setCell _ _ _ _ (by show w.heap.size≠g;omega));have f2:∀j,(v.setCell ⟨g,o,none⟩ x).cell? ⟨J,j,none⟩=v.cell? ⟨J,j,none⟩:=fun j=>World.cell?_of_block (Below.heap_setCell _ _ _ _ (by show J≠g;omega));exact⟨h.bel.setCell Zhl _,(f1 0).trans h.c0,(f1 1).trans h.c1,(f1 2).trans h.c2,(f1 3).trans h.c3,(f2 0).trans h.i0,(f2 1).trans h.i1,(f2 2).trans h.i2,(f2 3).trans h.i3,(f2 4).trans h.i4,(f2 5).trans h.i5,(f2 6).trans h.i6⟩
theorem TW.start(w:World)(v0 v1 v2 v3:Value)(op D A B E n bt:Int):TW w v0 v1 v2 v3 (w.heap.size+1) op D A B E n bt ((w.alloc (.cells #[v0,v1,v2,v3] 27)).alloc (.cells #[.int .i64 op,.int .i64 D,.int .i64 A,.int .i64 B,.int .i64 E,.int .i64 n,.int .u32 bt] 45)):=by
 have k:=Zhq (w.alloc (.cells #[v0,v1,v2,v3] 27)) (.cells #[.int .i64 op,.int .i64 D,.int .i64 A,.int .i64 B,.int .i64 E,.int .i64 n,.int .u32 bt] 45);exact⟨Go.Proofs.YtbinohkcolcbfaaGreat.bel (Zhq _ _) k,kc k sG,kc k sG,kc k sG,kc k sG,sG,sG,sG,sG,sG,sG,sG⟩
theorem Zmu{n:Nat}{w v:World}(h:Below n w v):Below n w v.drew:=h.drew
theorem rfits_A(v0 v1 v2 v3:Value)(c:Cd)(co:CdOk c)(hT:Zif c=true)(op D A B E n bt La Lb Lc Ld Le:Int)(a b cc d e:UInt8)
 (HROW:Hid (∀w,Calls prog 67 #[.int .i64 op] w fun x w'=>x=.returned (.tuple #[.string ⟨#[a,b,cc,d,e]⟩,.bool true])/\w'=w))
 (HCAN:Hid (∀w,Calls prog 63 #[.int .u32 bt] w fun e w'=>e=.returned (.bool true)/\Below w.heap.size w w'))
 (ix0:∀w,(Instr.index 9 (.string ⟨#[a,b,cc,d,e]⟩) (.int .i64 0)).run prog w=.ok (.int .u8 La) w)
 (ix1:∀w,(Instr.index 9 (.string ⟨#[a,b,cc,d,e]⟩) (.int .i64 1)).run prog w=.ok (.int .u8 Lb) w)
 (ix2:∀w,(Instr.index 9 (.string ⟨#[a,b,cc,d,e]⟩) (.int .i64 2)).run prog w=.ok (.int .u8 Lc) w)
 (ix3:∀w,(Instr.index 9 (.string ⟨#[a,b,cc,d,e]⟩) (.int .i64 3)).run prog w=.ok (.int .u8 Ld) w)
 (ix4:∀w,(Instr.index 9 (.string ⟨#[a,b,cc,d,e]⟩) (.int .i64 4)).run prog w=.ok (.int .u8 Le) w)
 (oa:Zka La) (ob:Zka Lb) (oc:Zka Lc) (od:Zka Ld) (oT:Le=112->La=118\/(La=45/\Lb=118)) (o1:(op==1)=false) (o2:(op != 1)=true) (o3:(bt==0)=true) (o4:(bt != 0)=false) (hz0:La=45) (oA:Lb=45->Le=45\/Le=113) (oB:Lb≠45->Le=45\/Le=112\/Le=115)
 (w:World) (hv:CdV w v0 v1 v2 v3 c):
 Calls prog 64 #[.agg #[v0,v1,v2,v3],.agg #[.int .i64 op,.int .i64 D,.int .i64 A,.int .i64 B,.int .i64 E,.int .i64 n,.int .u32 bt]] w fun e w'=>e=.returned (.bool (Zhz c.regs La D ⟨0,0⟩&&(Zhz c.regs Lb A (dR c.regs La D)&&(Zhz c.regs Lc B (dR c.regs La D)&&(Zhz c.regs Ld E (dR c.regs La D)&&Zlk c Le n (tR c.regs La Lb D A))))))/\Below w.heap.size w w':=by
 have KO:∀ (l n:Int) (d:Ty),Zka l->∀v,Below w.heap.size w v->Calls prog 104 #[.agg #[v0,v1,v2,v3],.int .u8 l,.int .i64 n,.agg #[.int .i64 d.kind,.int .i64 d.par]] v fun e w'=>e=.returned (.bool (Zhz c.regs l n d))/\Below v.heap.size v w':=fun l n d hl v hb=>Zqn v0 v1 v2 v3 c co l n d hl v (hv.below hb);have HT0:Hid (TW w v0 v1 v2 v3 (w.heap.size+1) op D A B E n bt ((w.alloc (.cells #[v0,v1,v2,v3] 27)).alloc (.cells #[.int .i64 op,.int .i64 D,.int .i64 A,.int .i64 B,.int .i64 E,.int .i64 n,.int .u32 bt] 45))):=TW.start w v0 v1 v2 v3 op D A B E n bt;obtain⟨p0,q0,rfl,-⟩:=id hv.sign;obtain⟨p1,q1,rfl,hr1⟩:=id hv.regs;obtain⟨p2,q2,rfl,-⟩:=id hv.slots;have hREG:∀x:Int,isPl x c.regs.length=true->∃ (k lb lo:Nat),x=(k:Int)/\k<c.regs.length/\p1=some ⟨lb,lo,none⟩/\w.cell? ⟨lb,lo+k*2,none⟩=some (.int .i64 (regT c.regs x).kind)/\w.cell? ⟨lb,lo+k*2+1,none⟩=some (.int .i64 (regT c.regs x).par):=by
  exact Zck
 have HREG:Hid (∀x:Int,isPl x c.regs.length=true->∃ (k lb lo:Nat),x=(k:Int)/\k<c.regs.length/\p1=some ⟨lb,lo,none⟩/\w.cell? ⟨lb,lo+k*2,none⟩=some (.int .i64 (regT c.regs x).kind)/\w.cell? ⟨lb,lo+k*2+1,none⟩=some (.int .i64 (regT c.regs x).par)):=hREG;have HCV:Hid (CdV w (.slice p0 c.sign.length q0) (.slice p1 c.regs.length q1) (.slice p2 c.slots.length q2) v3 c):=hv;have HCO:Hid (CdOk c):=co;have hB0:=co.signL;have hB1:=co.regsL;have hB2:=co.slotsL;have hTy:∀x:Int,isPl x c.regs.length=true->letR 118 (regT c.regs x) ⟨0,0⟩=true->isPl (regT c.regs x).par c.sign.length=true:=fun x hx hk=>by
  exact Zdc
 obtain⟨n0,hn0⟩:∃n0,c.sign.length=n0:=⟨_,rfl⟩
 obtain⟨n1,hn1⟩:∃n1,c.regs.length=n1:=⟨_,rfl⟩
 obtain⟨n2,hn2⟩:∃n2,c.slots.length=n2:=⟨_,rfl⟩
 have HN0:Hid (c.sign.length=n0):=hn0;have HN1:Hid (c.regs.length=n1):=hn1;have HN2:Hid (c.slots.length=n2):=hn2;rw[hn0]at hB0;rw[hn1]at hB1;rw[hn2]at hB2;rw[hn0,hn1,hn2]at HCV KO HT0 ⊢;clear hREG hv hr1 hn0 hn1 hn2 co;have HTY:Hid (∀x:Int,isPl x c.regs.length=true->letR 118 (regT c.regs x) ⟨0,0⟩=true->isPl (regT c.regs x).par c.sign.length=true):=hTy;clear hTy hT;have hKO0:=fun d=>KO La D d oa;have hKOA:=fun d=>KO Lb A d ob;have hKOB:=fun d=>KO Lc B d oc;have hKOC:=fun d=>KO Ld E d od;clear KO;have hPP0:Le=112->La=118\/(La=45/\Lb=118):=oT;clear oT oc od;obtain⟨RES,hRES⟩:∃R,(Zhz c.regs La D ⟨0,0⟩&&(Zhz c.regs Lb A (dR c.regs La D)&&(Zhz c.regs Lc B (dR c.regs La D)&&(Zhz c.regs Ld E (dR c.regs La D)&&Zlk c Le n (tR c.regs La Lb D A)))))=R:=⟨_,rfl⟩
 rw[hRES];subst hz0;by_cases hD:D=0
 ·subst hD;rw[Zou,show((0:Int)==0)=true from rfl,Bool.true_and,show dR c.regs 45 0=⟨0,0⟩from rfl]at hRES;have hXT:Zhz c.regs Lb A ⟨0,0⟩=true->Lb≠45->isPl A c.regs.length=true:=fun h hl=>by
   rw[Zkq hl]at h;simp only[Bool.and_eq_true]at h;exact h.1
  have hXP:Zhz c.regs Lb A ⟨0,0⟩=true->Lb=118->letR 118 (regT c.regs A) ⟨0,0⟩=true:=fun h hl=>by
   exact Zeu
  obtain⟨XA,hXA⟩:∃X,Zhz c.regs Lb A ⟨0,0⟩=X:=⟨_,rfl⟩
  obtain⟨XB,hXB⟩:∃X,Zhz c.regs Lc B ⟨0,0⟩=X:=⟨_,rfl⟩
  obtain⟨XC,hXC⟩:∃X,Zhz c.regs Ld E ⟨0,0⟩=X:=⟨_,rfl⟩
  rw[hXA]at hXT hXP;rw[hXA,hXB,hXC]at hRES;have HKA:Hid _:=hKOA ⟨0,0⟩;have HKB:Hid _:=hKOB ⟨0,0⟩;have HKC:Hid _:=hKOC ⟨0,0⟩;rw[hXA]at HKA;rw[hXB]at HKB;rw[hXC]at HKC;simp only at HKA HKB HKC;have HXT:Hid (XA=true->Lb≠45->isPl A c.regs.length=true):=hXT;have HXP:Hid (XA=true->Lb=118->letR 118 (regT c.regs A) ⟨0,0⟩=true):=hXP;have HRES:Hid ((XA&&(XB&&(XC&&Zlk c Le n (tR c.regs 45 Lb 0 A))))=RES):=hRES;clear hKO0 hKOA hKOB hKOC hXA hXB hXC hXT hXP hRES;go_enter func64,ntmps64;go_wp2_with(first
   |(go_at_call 67;refine(HROW.out _).mono ?_;rintro e w1 ⟨rfl,rfl⟩)
   |(go_at_call 63;refine(HCAN.out _).mono ?_;rintro e w2 ⟨rfl,hb2⟩;have HT2:Hid (TW w (.slice p0 n0 q0) (.slice p1 n1 q1) (.slice p2 n2 q2) v3 (w.heap.size+1) op 0 A B E n bt (w2.alloc (.cells #[.int .i64 0,.int .i64 0] 69))):=(HT0.out.next hb2).next (Zhq _ _);obtain⟨b1,c0,c1,c2,c3,i0,i1,i2,i3,i4,i5,i6⟩:=HT2.out;have HS2:Hid (w.heap.size+1<w2.heap.size):=Zhr (HT0.out.next hb2).i0;clear hb2))
  have HD:Hid ((w2.alloc (.cells #[.int .i64 0,.int .i64 0] 69)).cell? ⟨w2.heap.size,0,none⟩=some (.int .i64 0)/\(w2.alloc (.cells #[.int .i64 0,.int .i64 0] 69)).cell? ⟨w2.heap.size,1,none⟩=some (.int .i64 0)):=⟨sG,sG⟩
  have HTD:Hid _:=HT2.out;obtain⟨Z,hZ⟩:∃Z,w2.heap.size=Z:=⟨_,rfl⟩
  obtain⟨Wd,hWd⟩:∃W,w2.alloc (.cells #[.int .i64 0,.int .i64 0] 69)=W:=⟨_,rfl⟩
  rw[hZ]at HD;rw[hWd]at HD HTD ⊢;try rw[hZ]
  clear hZ hWd HT2 b1 c0 c1 c2 c3 i0 i1 i2 i3 i4 i5 i6 HT0 HROW HCAN;have HCD:Hid (∀v,Below Wd.heap.size Wd v->v.cell? ⟨w.heap.size,0,none⟩=some (.slice p0 n0 q0)/\v.cell? ⟨w.heap.size,1,none⟩=some (.slice p1 n1 q1)/\v.cell? ⟨w.heap.size,2,none⟩=some (.slice p2 n2 q2)/\v.cell? ⟨w.heap.size,3,none⟩=some v3/\v.cell? ⟨w.heap.size+1,1,none⟩=some (.int .i64 0)/\v.cell? ⟨w.heap.size+1,2,none⟩=some (.int .i64 A)/\v.cell? ⟨w.heap.size+1,3,none⟩=some (.int .i64 B)/\v.cell? ⟨w.heap.size+1,4,none⟩=some (.int .i64 E)/\v.cell? ⟨w.heap.size+1,5,none⟩=some (.int .i64 n)/\v.cell? ⟨Z,0,none⟩=some (.int .i64 0)/\v.cell? ⟨Z,1,none⟩=some (.int .i64 0)):=fun v hb=>⟨kc hb HTD.out.c0,kc hb HTD.out.c1,kc hb HTD.out.c2,kc hb HTD.out.c3,kc hb HTD.out.i1,kc hb HTD.out.i2,kc hb HTD.out.i3,kc hb HTD.out.i4,kc hb HTD.out.i5,kc hb HD.out.1,kc hb HD.out.2⟩
  obtain⟨c0,c1,c2,c3,i1,i2,i3,i4,i5,d0,d1⟩:=HCD.out Wd (bel0 _);cases XA
  ·have HQF:Hid (false=RES):=HRES.out;go_wp2;refine rG (fun v=>v.cell? ⟨w.heap.size,0,none⟩=some (.slice p0 n0 q0)/\v.cell? ⟨w.heap.size,1,none⟩=some (.slice p1 n1 q1)/\v.cell? ⟨w.heap.size,2,none⟩=some (.slice p2 n2 q2)/\v.cell? ⟨w.heap.size,3,none⟩=some v3/\v.cell? ⟨w.heap.size+1,1,none⟩=some (.int .i64 0)/\v.cell? ⟨w.heap.size+1,2,none⟩=some (.int .i64 A)/\v.cell? ⟨w.heap.size+1,3,none⟩=some (.int .i64 B)/\v.cell? ⟨w.heap.size+1,4,none⟩=some (.int .i64 E)/\v.cell? ⟨w.heap.size+1,5,none⟩=some (.int .i64 n)/\v.cell? ⟨Z,0,none⟩=some (.int .i64 0)/\v.cell? ⟨Z,1,none⟩=some (.int .i64 0)) fun hHeld=>?_;refine Tf 0 1 2 3 4 5 ?_;clear hHeld;refine ry1 6 fun K hK=>?_;go_simp;(go_at_call 104;(with_reducible refine(HKA.out _ (bel HTD.out.bel (Zhs _))).mono ?_);rintro e w3 ⟨rfl,hb9⟩;have HB3:Hid (Below Wd.heap.size Wd w3):=bel (Zhs _) hb9;clear hb9;obtain⟨c0,c1,c2,c3,i1,i2,i3,i4,i5,d0,d1⟩:=HCD.out w3 HB3.out);try(go_wp2_with fail)
   refine okK hK fun hHeld=>?_;clear hK K;refine Tb 7 8 ?_;refine Kd 9 10 11 12 ?_;refine Kd 13 14 15 16 ?_;refine Tb 17 18 ?_;refine Kd 19 20 21 22 ?_;refine Kd 23 24 25 26 ?_;refine tkT 27 ?_;refine wpAnyH_done kR ?_ _;go_wp2;go_ret;exact⟨Zhu HQF.out,bel HTD.out.bel HB3.out⟩
  cases XB
  ·have HQF:Hid (false=RES):=HRES.out;go_wp2;refine rG (fun v=>v.cell? ⟨w.heap.size,0,none⟩=some (.slice p0 n0 q0)/\v.cell? ⟨w.heap.size,1,none⟩=some (.slice p1 n1 q1)/\v.cell? ⟨w.heap.size,2,none⟩=some (.slice p2 n2 q2)/\v.cell? ⟨w.heap.size,3,none⟩=some v3/\v.cell? ⟨w.heap.size+1,1,none⟩=some (.int .i64 0)/\v.cell? ⟨w.heap.size+1,2,none⟩=some (.int .i64 A)/\v.cell? ⟨w.heap.size+1,3,none⟩=some (.int .i64 B)/\v.cell? ⟨w.heap.size+1,4,none⟩=some (.int .i64 E)/\v.cell? ⟨w.heap.size+1,5,none⟩=some (.int .i64 n)/\v.cell? ⟨Z,0,none⟩=some (.int .i64 0)/\v.cell? ⟨Z,1,none⟩=some (.int .i64 0)) fun hHeld=>?_;exact Zav
  cases XC
  ·have HQF:Hid (false=RES):=HRES.out;go_wp2;refine rG (fun v=>v.cell? ⟨w.heap.size,0,none⟩=some (.slice p0 n0 q0)/\v.cell? ⟨w.heap.size,1,none⟩=some (.slice p1 n1 q1)/\v.cell? ⟨w.heap.size,2,none⟩=some (.slice p2 n2 q2)/\v.cell? ⟨w.heap.size,3,none⟩=some v3/\v.cell? ⟨w.heap.size+1,1,none⟩=some (.int .i64 0)/\v.cell? ⟨w.heap.size+1,2,none⟩=some (.int .i64 A)/\v.cell? ⟨w.heap.size+1,3,none⟩=some (.int .i64 B)/\v.cell? ⟨w.heap.size+1,4,none⟩=some (.int .i64 E)/\v.cell? ⟨w.heap.size+1,5,none⟩=some (.int .i64 n)/\v.cell? ⟨Z,0,none⟩=some (.int .i64 0)/\v.cell? ⟨Z,1,none⟩=some (.int .i64 0)) fun hHeld=>?_;exact Zan
  go_wp2;refine rG (fun v=>v.cell? ⟨w.heap.size,0,none⟩=some (.slice p0 n0 q0)/\v.cell? ⟨w.heap.size,1,none⟩=some (.slice p1 n1 q1)/\v.cell? ⟨w.heap.size,2,none⟩=some (.slice p2 n2 q2)/\v.cell? ⟨w.heap.size,3,none⟩=some v3/\v.cell? ⟨w.heap.size+1,1,none⟩=some (.int .i64 0)/\v.cell? ⟨w.heap.size+1,2,none⟩=some (.int .i64 A)/\v.cell? ⟨w.heap.size+1,3,none⟩=some (.int .i64 B)/\v.cell? ⟨w.heap.size+1,4,none⟩=some (.int .i64 E)/\v.cell? ⟨w.heap.size+1,5,none⟩=some (.int .i64 n)/\v.cell? ⟨Z,0,none⟩=some (.int .i64 0)/\v.cell? ⟨Z,1,none⟩=some (.int .i64 0)) fun hHeld=>?_;refine Tf 0 1 2 3 4 5 ?_;clear hHeld;refine ry1 6 fun K hK=>?_;go_simp;(go_at_call 104;(with_reducible refine(HKA.out _ (bel HTD.out.bel (Zhs _))).mono ?_);rintro e w3 ⟨rfl,hb9⟩;have HB3:Hid (Below Wd.heap.size Wd w3):=bel (Zhs _) hb9;clear hb9;obtain⟨c0,c1,c2,c3,i1,i2,i3,i4,i5,d0,d1⟩:=HCD.out w3 HB3.out);try(go_wp2_with fail)
  refine okK hK fun hHeld=>?_;clear hK K;refine Tf 7 8 9 10 11 12 ?_;refine Tb 13 14 ?_;clear hHeld;refine ry1 15 fun K hK=>?_;go_simp;(go_at_call 104;(with_reducible refine(HKB.out _ (bel HTD.out.bel HB3.out)).mono ?_);rintro e w4 ⟨rfl,hb9⟩;have HB4:Hid (Below Wd.heap.size Wd w4):=bel HB3.out hb9;clear hb9;clear c0 c1 c2 c3 i1 i2 i3 i4 i5 d0 d1;obtain⟨c0,c1,c2,c3,i1,i2,i3,i4,i5,d0,d1⟩:=HCD.out w4 HB4.out);try(go_wp2_with fail)
  refine okK hK fun hHeld=>?_;clear hK K;refine Tf 16 17 18 19 20 21 ?_;refine Tc 22 23 24 ?_;clear hHeld;refine ry1 25 fun K hK=>?_;go_simp;(go_at_call 104;(with_reducible refine(HKC.out _ (bel HTD.out.bel HB4.out)).mono ?_);rintro e w5 ⟨rfl,hb9⟩;have HB5:Hid (Below Wd.heap.size Wd w5):=bel HB4.out hb9;clear hb9;clear c0 c1 c2 c3 i1 i2 i3 i4 i5 d0 d1;obtain⟨c0,c1,c2,c3,i1,i2,i3,i4,i5,d0,d1⟩:=HCD.out w5 HB5.out);try(go_wp2_with fail)
  refine okK hK fun hHeld=>?_;clear hK K;refine Tb 26 27 ?_;refine wpAnyH_done kR ?_ _;clear c0 c1 c2 c3 i1 i2 i3 i4 i5 d0 d1;have HT5:Hid (TW w (.slice p0 n0 q0) (.slice p1 n1 q1) (.slice p2 n2 q2) v3 (w.heap.size+1) op 0 A B E n bt w5):=HTD.out.next HB5.out;obtain⟨hb5,c0,c1,c2,c3,i0,i1,i2,i3,i4,i5,i6⟩:=HT5.out;obtain⟨-,-,-,-,-,-,-,-,-,d0,d1⟩:=HCD.out w5 HB5.out;have hs5:w5.heap.size≠w.heap.size+1/\w.heap.size<w5.heap.size:=⟨fun e=>by have:=Zhr i0;simp only at this;omega,by have:=Zhr c0;simp only at this;omega⟩
  have HAL:Hid (TW w (.slice p0 n0 q0) (.slice p1 n1 q1) (.slice p2 n2 q2) v3 (w.heap.size+1) op 0 A B E n bt (w5.alloc (.cells #[.int .i64 0,.int .i64 0] 69))):=HT5.out.next (Zhq _ _);by_cases hlb:Lb=45
  ·have oe:=oA hlb;subst hlb;have HRT:Hid (Zlk c Le n ⟨0,0⟩=RES):=HRES.out;clear c0 c1 c2 c3 i0 i1 i2 i3 i4 i5 i6;have t0:(w5.alloc (.cells #[.int .i64 0,.int .i64 0] 69)).cell? ⟨w5.heap.size,0,none⟩=some (.int .i64 0):=sG;have t1:(w5.alloc (.cells #[.int .i64 0,.int .i64 0] 69)).cell? ⟨w5.heap.size,1,none⟩=some (.int .i64 0):=sG;obtain⟨hbx,c0,c1,c2,c3,i0,i1,i2,i3,i4,i5,i6⟩:=HAL.out;clear d0 d1 hPP0 HXT HXP HRES oA oB;have hbt:=hbx;rcases oe with rfl|rfl
   ·exact Zdk
   ·have HQ:Hid (isPl n c.sign.length=RES):=HRT.out;have hN0:=HN0.out;by_cases hn0:0<=n
    all_goals
     go_wp2;go_ret;refine⟨Zhu ?_,hbt⟩;rw[←HQ.out];unfold isPl;rw[hN0];first|(simp[hn0];done)|(simp[hn0];omega)|(simp[hn0];intro h;omega)
  ·have oe:=oB hlb;have hlb1:(Lb==45)=false:=by simpa using hlb
   have hlb2:(Lb != 45)=true:=by simpa using hlb
   obtain⟨ka,lb,lo,rfl,hka,rfl,ya0,ya1⟩:=HREG.out A (HXT.out fT hlb);have HRT0:Hid (Zlk c Le n (regT c.regs (ka:Int))=RES):=by
    have h1:=HRES.out;have h2:tR c.regs 45 Lb 0 (ka:Int)=regT c.regs (ka:Int):=if_pos ⟨rfl,hlb⟩;rw[h2]at h1;exact h1
   have HPP0:Hid (Le=112->isPl (regT c.regs (ka:Int)).par c.sign.length=true):=fun e=>by
    rcases hPP0 e with h|⟨-,h⟩
    ·exact absurd h dE
    ·exact HTY.out _ (HXT.out fT hlb) (HXP.out fT h)
   obtain⟨⟨tk,tp⟩,htt⟩:∃t:Ty,regT c.regs (ka:Int)=t:=⟨_,rfl⟩
   rw[htt]at HRT0 HPP0 ya0 ya1;have HRT:Hid (Zlk c Le n ⟨tk,tp⟩=RES):=HRT0.out;have HPP:Hid (Le=112->isPl tp c.sign.length=true):=HPP0.out;have ka0:(0:Int)<=(ka:Int):=oM;have ka1:(ka:Int)<(n1:Int):=by have:=HN1.out;omega
   clear c0 c1 c2 c3 i0 i1 i2 i3 i4 i5 i6;have hq5:=fun o=>HT5.out.next (Zhq w5 o);have c0:=fun o=>(hq5 o).c0;have c1:=fun o=>(hq5 o).c1;have c2:=fun o=>(hq5 o).c2;have c3:=fun o=>(hq5 o).c3;have i2:=fun o=>(hq5 o).i2;have i5:=fun o=>(hq5 o).i5;have xa0:=fun o=>kc (hq5 o).bel ya0;have xa1:=fun o=>kc (hq5 o).bel ya1;have hbx:=(hq5 (.cells #[.int .i64 tk,.int .i64 tp] 69)).bel;have t0:(w5.alloc (.cells #[.int .i64 tk,.int .i64 tp] 69)).cell? ⟨w5.heap.size,0,none⟩=some (.int .i64 tk):=sG;have t1:(w5.alloc (.cells #[.int .i64 tk,.int .i64 tp] 69)).cell? ⟨w5.heap.size,1,none⟩=some (.int .i64 tp):=sG;clear d0 d1 hPP0 HXT HXP HRES oA oB hq5;have hbt:=hbx;rcases oe with rfl|rfl|rfl
   ·exact Zdk
   ·have HQ:Hid ((n==0||(n==1&&Zkv c.sign tp==2))=RES):=HRT.out;have HPA:Hid (∀v,Below w.heap.size w v->Calls prog 105 #[.agg #[.slice p0 n0 q0,.slice (some ⟨lb,lo,none⟩) n1 q1,.slice p2 n2 q2,v3],.int .i64 n,.int .i64 tp] v fun e w'=>e=.returned (.bool RES)/\Below v.heap.size v w'):=fun v hb=>by rw[←HQ.out];exact Zyp _ _ _ _ c HCO.out n tp (fun _=>HPP.out rfl) v (HCV.out.below hb)
    exact Zeg
   ·have HQ:Hid ((isPl n c.slots.length&&decide (slotT c.slots n=⟨tk,tp⟩))=RES):=HRT.out;cases hpl:isPl n c.slots.length
    ·exact Zaw
    ·obtain⟨k,rfl,hkl⟩:=Zly hpl;obtain⟨lb9,lo9,ep,hc9⟩:=RowG.at (p:=p2) (n:=n2) (c:=q2) HCV.out.slots hkl;subst ep;have e9:slotT c.slots (k:Int)=c.slots[k].ty:=by unfold slotT;rw[Int.toNat_natCast,List.getElem?_eq_getElem hkl];rfl
     have hq9:=HQ.out;rw[hpl,Bool.true_and,e9]at hq9;obtain⟨⟨⟨sk,sp⟩,sQ,sB,sI⟩,ht9⟩:∃t:Sl,c.slots[k]=t:=⟨_,rfl⟩
     rw[ht9]at hc9 hq9;have HQ9:Hid (decide ((⟨sk,sp⟩:Ty)=⟨tk,tp⟩)=RES):=hq9;have y0:w.cell? ⟨lb9,lo9+k*5,none⟩=some (.int .i64 sk):=hc9.at 0 rfl;have y1:w.cell? ⟨lb9,lo9+k*5+1,none⟩=some (.int .i64 sp):=hc9.at 1 rfl;have x0:=kc hbt y0;have x1:=kc hbt y1;have k0:(0:Int)<=(k:Int):=oM;have k1:(k:Int)<(n2:Int):=by have:=HN2.out;omega
     clear hc9 ht9 e9 hpl hq9 HQ;by_cases hks:sk=tk
     ·obtain rfl:=hks;by_cases hps:sp=tp
      ·exact Zbt
      ·go_wp2;refine rG (fun v=>v.cell? ⟨w.heap.size,2,none⟩=some (.slice (some ⟨lb9,lo9,none⟩) n2 q2)/\v.cell? ⟨w.heap.size+1,5,none⟩=some (.int .i64 (k:Int))/\v.cell? ⟨lb9,lo9+k*5,none⟩=some (.int .i64 sk)/\v.cell? ⟨lb9,lo9+k*5+1,none⟩=some (.int .i64 sp)/\v.cell? ⟨w5.heap.size,0,none⟩=some (.int .i64 sk)/\v.cell? ⟨w5.heap.size,1,none⟩=some (.int .i64 tp)) fun hHeld=>?_;exact Zdm
     ·go_wp2;refine rG (fun v=>v.cell? ⟨w.heap.size,2,none⟩=some (.slice (some ⟨lb9,lo9,none⟩) n2 q2)/\v.cell? ⟨w.heap.size+1,5,none⟩=some (.int .i64 (k:Int))/\v.cell? ⟨lb9,lo9+k*5,none⟩=some (.int .i64 sk)/\v.cell? ⟨lb9,lo9+k*5+1,none⟩=some (.int .i64 sp)/\v.cell? ⟨w5.heap.size,0,none⟩=some (.int .i64 tk)/\v.cell? ⟨w5.heap.size,1,none⟩=some (.int .i64 tp)) fun hHeld=>?_;exact Zdn
 ·rw[Zou,show(D==0)=false by simpa using hD,Bool.false_and]at hRES;have hD1:(D==0)=false:=by simpa using hD
  have hD2:(D != 0)=true:=by simpa using hD
  have HRF:Hid (false=RES):=hRES;clear hRES;go_enter func64,ntmps64;go_wp2_with(first
   |(go_at_call 67;refine(HROW.out _).mono ?_;rintro e w1 ⟨rfl,rfl⟩)
   |(go_at_call 63;refine(HCAN.out _).mono ?_;rintro e w2 ⟨rfl,hb2⟩;have HT2:Hid (TW w (.slice p0 n0 q0) (.slice p1 n1 q1) (.slice p2 n2 q2) v3 (w.heap.size+1) op D A B E n bt (w2.alloc (.cells #[.int .i64 0,.int .i64 0] 69))):=(HT0.out.next hb2).next (Zhq _ _);obtain⟨b1,c0,c1,c2,c3,i0,i1,i2,i3,i4,i5,i6⟩:=HT2.out;have HS2:Hid (w.heap.size+1<w2.heap.size):=Zhr (HT0.out.next hb2).i0;clear hb2))
  go_ret;exact⟨Zhu HRF.out,HT2.out.bel⟩
end Go.Proofs.YtbinohkcolcbfaaGreat
