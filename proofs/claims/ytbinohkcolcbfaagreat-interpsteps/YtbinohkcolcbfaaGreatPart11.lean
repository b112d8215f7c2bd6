import Derived.Test.YtbinohkcolcbfaaGreatPart10
import Derived.Handy
import Derived.Test.YtbinohkcolcbfaaGreatPart8
import Derived.Test.YtbinohkcolcbfaaGreatPart1
namespace Go.Proofs.YtbinohkcolcbfaaGreat
open Go.RowKit Go.Proofs.Tryz
set_option linter.unusedVariables false
set_option linter.unusedSimpArgs false
set_option maxRecDepth 100000
set_option maxHeartbeats 16000000
theorem Zsl(a:Int)(k:Nat)(hk:k<64)(h0:0<=a)(h1:a<18446744073709551616):bits .and .u64 a ((2^k-1:Nat):Int)=a%((2^k:Nat):Int):=by
 have hp:2^k<2^64:=Nat.pow_lt_pow_right oM hk;have hq:0<2^k:=Nat.two_pow_pos k;obtain⟨n,rfl⟩:=Int.eq_ofNat_of_zero_le h0;rw[u64_and _ _ h0 h1 oM oM,Int.toNat_natCast,Int.toNat_natCast,Nat.and_two_pow_sub_one_eq_mod];rfl
theorem and64_8(a:Int)(h0:0<=a)(h1:a<18446744073709551616):bits .and .u64 a 255=a%256:=Zsl a 8 dE h0 h1
theorem Zano(a:Int)(h0:0<=a)(h1:a<18446744073709551616):bits .and .u64 a 8388607=a%8388608:=Zsl a 23 dE h0 h1
def nMin(a:Int):Bool:=a/2147483648==1
def nM(a:Int):Int:=if a/8388608%256=255 then 0 else if a/8388608%256=0 then a%8388608 else 8388608+a%8388608
def nE(a:Int):Int:=if a/8388608%256=255 then 0 else if a/8388608%256=0 then -149 else a/8388608%256-150
def nInf(a:Int):Bool:=if a/8388608%256=255 then a%8388608==0 else false
def nNan(a:Int):Bool:=if a/8388608%256=255 then a%8388608 != 0 else false
theorem Zma(a:Int)(h0:0<=a)(h1:a<4294967296)(w:World):
 Calls prog 135 #[.int .i64 a] w fun e w'=>e=.returned (.agg #[.bool (nMin a),.int .u64 (nM a),.int .i64 (nE a),.bool (nInf a),.bool (nNan a)])/\∃o,w'=(w.alloc o).alloc o:=by
 have e1:=and64_8 (a/8388608) oM oM;have e2:=Zano a h0 oM;by_cases c:a/8388608%256=255
 ·have f1:nM a=0:=by unfold nM;rw[if_pos c]
  have f2:nE a=0:=by unfold nE;rw[if_pos c]
  have f3:nInf a=(a%8388608==0):=by unfold nInf;rw[if_pos c]
  have f4:nNan a=(a%8388608 != 0):=by unfold nNan;rw[if_pos c]
  exact Zdh
 ·by_cases c2:a/8388608%256=0
  ·have f1:nM a=a%8388608:=by unfold nM;rw[if_neg c,if_pos c2]
   have f2:nE a= -149:=by unfold nE;rw[if_neg c,if_pos c2]
   have f3:nInf a=false:=by unfold nInf;rw[if_neg c]
   have f4:nNan a=false:=by unfold nNan;rw[if_neg c]
   exact Zdh
  ·have f1:nM a=8388608+a%8388608:=by unfold nM;rw[if_neg c,if_neg c2]
   have f2:nE a=a/8388608%256-150:=by unfold nE;rw[if_neg c,if_neg c2]
   have f3:nInf a=false:=by unfold nInf;rw[if_neg c]
   have f4:nNan a=false:=by unfold nNan;rw[if_neg c]
   exact Zdh
def sgn(s:Bool):Int:=if s then 2147483648 else 0
theorem Zabp(s:Bool):0<=sgn s/\sgn s<=2147483648:=by unfold sgn;split<;>decide
theorem Zrb(s:Bool)(w:World):
 Calls prog 155 #[.bool s] w fun e w'=>e=.returned (.int .u64 (sgn s))/\w'=w:=by
 cases s
 all_goals(
  go_enter func155,ntmps155;go_wp2;go_ret
  exact⟨rfl,rfl⟩)
theorem Zmw(s:Bool)(w:World):
 Calls prog 153 #[.bool s] w fun e w'=>e=.returned (.int .i64 (sgn s))/\w'=w:=by
 have hl:=Zabp s;go_enter func153,ntmps153;go_wp2_with(go_at_call 155;refine(Zrb _ _).mono ?_;rintro e w' ⟨rfl,rfl⟩);go_ret;exact⟨rfl,rfl⟩
theorem Znr(s:Bool)(w:World):
 Calls prog 152 #[.bool s] w fun e w'=>e=.returned (.int .i64 (sgn s+2139095040))/\w'=w:=by
 have hl:=Zabp s;go_enter func152,ntmps152;go_wp2_with(go_at_call 155;refine(Zrb _ _).mono ?_;rintro e w' ⟨rfl,rfl⟩);go_ret;exact⟨rfl,rfl⟩
def blen(n:Nat):Nat:=if n=0 then 0 else n.log2+1
theorem Zyu(n:Nat)(h:n≠0):blen n=blen (n/2)+1:=by
 unfold blen;rw[if_neg h];by_cases c:n/2=0
 ·rw[if_pos c];have:n=1:=oM;subst this;decide
 ·rw[if_neg c,Nat.log2_def n,if_pos oM]
theorem Zqr(m:Int)(h0:0<=m)(h1:m<18446744073709551616)(w:World):
 Calls prog 122 #[.int .u64 m] w fun e w'=>e=.returned (.int .i64 (blen m.toNat))/\w'=w:=by
 have hb:blen m.toNat<=64:=by
  unfold blen;split
  ·omega
  ·rename_i c;have:m.toNat.log2<64:=(Nat.log2_lt c).2 oM;omega
 generalize hB:blen m.toNat=B at *;have HB:Hid (blen m.toNat=B):=hB;clear hB;go_enter func122,ntmps122;go_wp2;go_loop [0,3] (fun mv nv=>∃ (x:Int) (k:Nat),0<=x/\x<=m/\mv=.int .u64 x/\nv=.int .i64 k/\k+blen x.toNat=B) (fun mv _=>(intOf mv).toNat)
 case atStart=>exact⟨m,0,h0,Int.le_refl _,rfl,rfl,by rw[HB.out];omega⟩
 case round=>
  obtain⟨x,k,hx0,hx1,rfl,rfl,hk⟩:=hrel;have HK:Hid (k+blen x.toNat=B):=hk;by_cases hz:x=0
  ·have:k=B:=by rw[←hk,hz];rfl
   subst this;clear hk HK HB;subst hz;go_wp2;go_ret;exact⟨rfl,rfl⟩
  ·have hs:=Zyu x.toNat oM;have HS:Hid (blen x.toNat=blen (x.toNat/2)+1):=hs;have hkB:k<=63:=oM;clear hs hk;go_wp2;go_round
   case rel=>exact⟨x/2,k+1,oM,oM,rfl,gN,by rw[show(x/2).toNat=x.toNat/2 by omega];have:=HK.out;have:=HS.out;omega⟩
   case measure=>simp[intOf];omega
theorem Zwz(neg:Bool)(n drop:Nat):Ieee.Toward.even.cut neg n drop=n/2^drop+(if 2^drop<2*(n%2^drop)\/(2^drop=2*(n%2^drop)/\n/2^drop%2=1)then 1 else 0):=by
 have key:∀g l r:Nat,l+(decide (g<2*r)||g==2*r&&l%2==1).toNat=l+(if g<2*r\/(g=2*r/\l%2=1)then 1 else 0):=by
  intro g l r;by_cases c1:g<2*r
  ·simp[c1]
  ·by_cases c2:g=2*r
   ·by_cases c3:l%2=1<;>simp[c2,c3]
   ·simp[c1,c2]
 unfold Ieee.Toward.cut;simp only[Nat.one_shiftLeft];rcases Nat.lt_or_ge (n.log2+2) drop with c|c
 ·rw[Nat.min_eq_right oM];have h1:n<2^(n.log2+1):=Nat.lt_log2_self;have h2:2^(n.log2+2)=2*2^(n.log2+1):=by rw[Nat.pow_succ];omega
  have h3:2^(n.log2+2)<=2^drop:=Nat.pow_le_pow_right oM oM;rw[key,Nat.div_eq_of_lt oM,Nat.mod_eq_of_lt oM,Nat.div_eq_of_lt oM,Nat.mod_eq_of_lt (show n<2^drop by omega)];rw[if_neg oM,if_neg oM]
 ·rw[Nat.min_eq_left oM,key]
theorem cut_int(m:Int)(h0:0<=m)(d:Nat)(hd:1<=d):((Ieee.Toward.even.cut false m.toNat d:Nat):Int)=if(2:Int)^(d-1)<m%2^d\/(m%2^d=2^(d-1)/\m/2^d%2=1)then m/2^d+1 else m/2^d:=by
 obtain⟨n,rfl⟩:=Int.eq_ofNat_of_zero_le h0;rw[Zwz,Int.toNat_natCast];have hG:2^d=2*2^(d-1):=by
  obtain⟨e,rfl⟩:∃e,d=e+1:=⟨d-1,oM⟩
  rw[Nat.add_sub_cancel,Nat.pow_succ,Nat.mul_comm]
 have e1:((n:Int)/2^d)=((n/2^d:Nat):Int):=by push_cast;rfl
 have e2:((n:Int)%2^d)=((n%2^d:Nat):Int):=by push_cast;rfl
 have e3:(2:Int)^(d-1)=((2^(d-1):Nat):Int):=by push_cast;rfl
 rw[e1,e2,e3];generalize n/2^d=q;generalize n%2^d=r;rw[hG];generalize 2^(d-1)=H;by_cases c:2*H<2*r\/(2*H=2*r/\q%2=1)
 ·rw[if_pos c,if_pos oM];omega
 ·rw[if_neg c,if_neg oM];omega
theorem Zadx(m:Int)(h0:0<=m)(h1:m<18446744073709551616)(d:Nat)(g0:1<=d)(g1:d<64)(w:World):
 Calls prog 154 #[.int .u64 m,.int .i64 d] w fun e w'=>e=.returned (.int .u64 (Ieee.Toward.even.cut false m.toNat d:Nat))/\w'=w:=by
 rw[cut_int m h0 d g0];have hG:(2:Int)^d=2*2^(d-1):=by
  obtain⟨e,rfl⟩:∃e,d=e+1:=⟨d-1,oM⟩
  rw[Nat.add_sub_cancel,Int.pow_succ,Int.mul_comm]
 have hle:(2:Int)^d<=9223372036854775808:=by
  have h:2^d<=9223372036854775808:=Nat.le_trans (Nat.pow_le_pow_right dE (show d<=63 by omega)) dE;have h':((2^d:Nat):Int)<=((9223372036854775808:Nat):Int):=Int.ofNat_le.2 h;rw[Int.natCast_pow]at h';exact h'
 have hH:(1:Int)<=2^(d-1):=Int.pow_pos dE;have f1:IntKind.u64.wrap ((2:Int)^d)=2^d:=by rw[IntKind.wrap_u64];omega
 have f4:IntKind.u64.wrap ((2:Int)^(d-1))=2^(d-1):=by rw[IntKind.wrap_u64];omega
 have f3:bits .and .u64 m ((2:Int)^d-1)=m%2^d:=by
  have:=Zsl m d g1 h0 h1;have e:((2^d-1:Nat):Int)=(2:Int)^d-1:=by
   rw[Int.ofNat_sub (Nat.two_pow_pos d)];push_cast;rfl
  rw[e]at this;rw[this];push_cast;rfl
 have hr0:0<=m%2^d:=Int.emod_nonneg _ oM;have hr1:m%2^d<2^d:=Int.emod_lt_of_pos _ oM;have hq0:0<=m/2^d:=Int.ediv_nonneg h0 oM;have hq1:m/2^d<=9223372036854775807:=by
  have h2:m/2^d<=m/2:=by
   have:(2:Int)∣2^d:=⟨2^(d-1),hG⟩
   rw[hG,←Int.ediv_ediv_of_nonneg dE];exact Int.ediv_le_self _ oM
  omega
 have f5:IntKind.u64.wrap ((2:Int)^d-1)=2^d-1:=by rw[IntKind.wrap_u64];omega
 generalize hr:m%2^d=r at *;generalize hq:m/2^d=q at *;generalize hHH:(2:Int)^(d-1)=H at *;generalize hGG:(2:Int)^d=G at *;have hG1:1<=G:=oM;clear hr hG;by_cases c1:H<r
 ·rw[if_pos (Or.inl c1)];exact Zcf
 ·by_cases c2:r=H
  ·by_cases c3:q%2=1
   ·rw[if_pos (Or.inr ⟨c2,c3⟩)];exact Zcf
   ·rw[if_neg oM];exact Zcf
  ·rw[if_neg oM];exact Zcf
theorem Zut(m:Int)(h0:0<=m)(h1:m<18446744073709551616)(d:Int)(g0:1<=d)(g1:d<100000)(w:World):
 Calls prog 154 #[.int .u64 m,.int .i64 d] w fun e w'=>e=.returned (.int .u64 (Ieee.Toward.even.cut false m.toNat d.toNat:Nat))/\w'=w:=by
 rcases Int.lt_trichotomy d 64 with c|c|c
 ·have:=Zadx m h0 h1 d.toNat oM oM w;rwa[Int.toNat_of_nonneg oM]at this
 ·subst c;have hv:((Ieee.Toward.even.cut false m.toNat (64:Int).toNat:Nat):Int)=if 9223372036854775808<m then 1 else 0:=by
   rw[Zwz,show(64:Int).toNat=64 from rfl,show(2:Nat)^64=18446744073709551616 from rfl,Nat.div_eq_of_lt oM,Nat.mod_eq_of_lt oM];by_cases c:9223372036854775808<m
   ·rw[if_pos c,if_pos oM];rfl
   ·rw[if_neg c,if_neg oM];rfl
  rw[hv];clear hv;by_cases c:9223372036854775808<m
  ·rw[if_pos c];exact Zcf
  ·rw[if_neg c];by_cases c2:m=9223372036854775808
   ·subst c2;exact Zcf
   ·exact Zcf
 ·have hv:((Ieee.Toward.even.cut false m.toNat d.toNat:Nat):Int)=0:=by
   have hp:2^65<=2^d.toNat:=Nat.pow_le_pow_right dE oM;have h65:(2:Nat)^65=36893488147419103232:=rfl;rw[Zwz,Nat.div_eq_of_lt oM,Nat.mod_eq_of_lt oM,if_neg oM];rfl
  rw[hv];clear hv;exact Zcf
theorem Zaaw(s:Bool)(r:Nat):((wd s r:Nat):Int)=sgn s+min (r:Int) 2139095040:=by
 unfold wd sgn;cases s
 ·simp only[if_false,Bool.false_eq_true];omega
 ·simp only[if_true];omega
theorem Zaad(s:Bool)(m:Nat)(e:Int)(h0:m≠0):∃ (U:Int) (k:Nat),U=max (e+(blen m:Int)-24) (-149)/\
 ((Ieee.single.nearest s m e:Nat):Int)=sgn s+min ((U+149)*8388608+k) 2139095040/\k<=16777216/\(U= -149\/8388608<=k)/\
 k=Ieee.Toward.even.cut false (m*2^(e-U).toNat) (U-e).toNat/\(U<=e->(k:Int)=(m:Int)*2^(e-U).toNat):=by
 have hb:(blen m:Int)-24=m.log2-23:=by unfold blen;rw[if_neg h0];omega
 have hn:=Zju Ieee.single s m e;rw[Zsb,Zmb,Zkq]at hn;refine⟨max (e+(blen m:Int)-24) (-149),Ieee.Toward.even.cut false (m*2^(e-max (e+(blen m:Int)-24) (-149)).toNat) (max (e+(blen m:Int)-24) (-149)-e).toNat,rfl,?_⟩;have hU:max (e+(blen m:Int)-24) (-149)=max (e+m.log2-((23:Nat):Int)) (-149):=oM;rw[hU];generalize hUU:max (e+m.log2-((23:Nat):Int)) (-149)=U at *;have hr:Zkh 23 (-149) m e=(U-(-149)).toNat*2^23+Ieee.Toward.even.cut false (m*2^(e-U).toNat) (U-e).toNat:=by
  unfold Zkh;rw[if_neg h0,Nat.shiftLeft_eq,hUU]
 have hcut:=Zabo false (m*2^(e-U).toNat) (U-e).toNat;generalize hk:Ieee.Toward.even.cut false (m*2^(e-U).toNat) (U-e).toNat=k at *;have hlo:2^m.log2<=m:=Nat.log2_self_le h0;have hhi:m<2^(m.log2+1):=Nat.lt_log2_self;have hcs:=hcut.scale 0 0 (U-e).toNat rfl;rw[Nat.pow_zero,Nat.mul_one]at hcs;have lo:U= -149\/2^23*2^(U-e).toNat<=m*2^(e-U).toNat:=by
  rcases(show U= -149\/U=e+m.log2-23 by omega)with c|c
  ·exact Or.inl c
  ·right
   calc 2^23*2^(U-e).toNat=2^m.log2*2^(e-U).toNat:=by rw[←Nat.pow_add,←Nat.pow_add];congr 1;omega
    _<=m*2^(e-U).toNat:=Nat.mul_le_mul_right _ hlo
 have hi:m*2^(e-U).toNat<2*2^23*2^(U-e).toNat:=by
  calc m*2^(e-U).toNat<2^(m.log2+1)*2^(e-U).toNat:=Nat.mul_lt_mul_of_pos_right hhi (Nat.two_pow_pos _)
   _=2^(m.log2+1+(e-U).toNat):=(Nat.pow_add ..).symm
   _<=2^(24+(U-e).toNat):=Nat.pow_le_pow_right dE oM
   _=2*2^23*2^(U-e).toNat:=by rw[Nat.pow_add]
 have up:=hcut.up;have dn:=hcut.dn;simp only[Nat.mul_one]at up dn;have hT:0<2^(U-e).toNat:=Nat.two_pow_pos _;have hkle:k<=16777216:=by
  rcases Nat.lt_or_ge 16777216 k with c|c
  ·exfalso;have:(2*16777217)*2^(U-e).toNat<=2*k*2^(U-e).toNat:=Nat.mul_le_mul_right _ oM;generalize 2^(U-e).toNat=T at *;generalize m*2^(e-U).toNat=X at *;omega
  ·exact c
 have hkge:U= -149\/8388608<=k:=by
  rcases lo with c|c
  ·exact Or.inl c
  ·right;rcases Nat.lt_or_ge k 8388608 with d|d
   ·exfalso;have:(2*k+1)*2^(U-e).toNat<=16777215*2^(U-e).toNat:=Nat.mul_le_mul_right _ oM;generalize 2^(U-e).toNat=T at *;generalize m*2^(e-U).toNat=X at *;omega
   ·exact d
 refine⟨?_,hkle,hkge,rfl,?_⟩
 ·rw[hn,hr,Zaaw];rw[Int.natCast_add,Int.natCast_mul,Int.toNat_of_nonneg oM];omega
 ·intro l;rw[show(U-e).toNat=0 by omega]at hcut;have up:=hcut.up;have dn:=hcut.dn;have ue:=hcut.ue;have de:=hcut.de;have:k=m*2^(e-U).toNat:=by
   generalize m*2^(e-U).toNat=X at *;simp only[Nat.pow_zero,Nat.mul_one]at ue de up dn;omega
  rw[this];push_cast;rfl
theorem Zkm(s:Bool)(m:Int)(h0:0<=m)(h1:m<18446744073709551616)(e:Int)(e0: -10000<=e)(e1:e<=10000)(w:World):
 Calls prog 124 #[.bool s,.int .u64 m,.int .i64 e] w fun x w'=>x=.returned (.int .i64 (Ieee.single.nearest s m.toNat e:Nat))/\w'=w:=by
 have hs:=Zabp s;by_cases hz:m=0
 ·subst hz;have hv:((Ieee.single.nearest s (0:Int).toNat e:Nat):Int)=sgn s:=by
   show((Ieee.single.nearest s 0 e:Nat):Int)=sgn s;exact Zfo
  rw[hv];clear hv;go_enter func124,ntmps124;go_wp2_with(go_at_call 153;refine(Zmw _ _).mono ?_;rintro e w' ⟨rfl,rfl⟩);go_ret;exact⟨rfl,rfl⟩
 ·obtain⟨U,k,hU,hv,hk1,hk2,hk3,hk4⟩:=Zaad s m.toNat e oM;rw[hv];clear hv;have hB:1<=blen m.toNat/\blen m.toNat<=64:=by
   unfold blen;rw[if_neg oM];have:m.toNat.log2<64:=(Nat.log2_lt oM).2 oM;omega
  generalize hBB:blen m.toNat=B at *;have fh:e<U->((Ieee.Toward.even.cut false m.toNat (U-e).toNat:Nat):Int)=k:=by
   intro l;rw[hk3,show(e-U).toNat=0 by omega,Nat.pow_zero,Nat.mul_one]
  have fq:U<=e->IntKind.u64.wrap (m*2^(-(U-e)).toNat)=k:=by
   intro l;have:=hk4 l;rw[show(-(U-e)).toNat=(e-U).toNat by omega,show m=(m.toNat:Int) by omega,←this,IntKind.wrap_u64];omega
  clear hk3 hk4;have hUr: -149<=U/\U<=20000:=oM;have hK0:0<=(k:Int)/\(k:Int)<=16777216/\(U= -149\/8388608<=(k:Int)):=oM;clear hk1 hk2;generalize hKK:(k:Int)=K at *;clear hKK;generalize hT:min ((U+149)*8388608+K) 2139095040=T;have cases:(K=16777216/\U<104/\T=(U+151)*8388608)\/(K=16777216/\104<=U/\T=2139095040)\/(U= -149/\K<8388608/\T=K)\/
   (8388608<=K/\K<16777216/\U<105/\T=(U+149)*8388608+K)\/(8388608<=K/\K<16777216/\105<=U/\T=2139095040):=oM
  clear hT;by_cases hu: -149>e+(B:Int)-24
  ·have hU':U= -149:=oM;clear hU;subst hU';clear hUr;by_cases hsh: -149<=e
   ·have fq':=fq hsh;exact Zby
   ·have fh':=fh oM;exact Zby
  ·have hu2:e+(B:Int)-24=U:=oM;clear hU;by_cases hsh:U<=e
   ·have fq':=fq hsh;exact Zbx
   ·have fh':=fh oM;exact Zbx
theorem Zxa(a:Int)(h0:0<=a)(h1:a<4294967296):nMin a=ng a.toNat:=by
 unfold nMin ng;by_cases c:2147483648<=a
 ·have e1:a/2147483648=1:=oM;have e2:a.toNat/2147483648%2=1:=oM;rw[e1,e2];rfl
 ·have e1:a/2147483648=0:=oM;have e2:a.toNat/2147483648%2=0:=oM;rw[e1,e2];rfl
theorem Zku(a:Int)(h0:0<=a)(h1:a<4294967296):nNan a=nan a:=by
 unfold nNan nan;by_cases c:a/8388608%256=255
 ·rw[if_pos c];by_cases d:a%8388608=0
  ·have:¬ (2139095040<a%2147483648):=oM;simp[d,this]
  ·have:2139095040<a%2147483648:=oM;simp[d,this]
 ·rw[if_neg c];have:¬ (2139095040<a%2147483648):=oM;simp[this]
theorem Zox(a:Int)(h0:0<=a)(h1:a<4294967296)(h:nNan a=true):∃s t,Ieee.single.read a.toNat=.nan s t:=by
 rw[Zku a h0 h1,Ztg a h0]at h;exact⟨_,_,Zlc _ Zgb⟩
theorem Zmk(a:Int)(h0:0<=a)(h1:a<4294967296)(h:nInf a=true):Ieee.single.read a.toNat=.infinity (nMin a)/\nNan a=false/\nM a=0:=by
 have c:a/8388608%256=255/\a%8388608=0:=by
  unfold nInf at h;split at h
  ·rename_i c;exact⟨c,by simpa using h⟩
  ·cases h
 refine⟨?_,?_,?_⟩
 ·rw[Zxa a h0 h1];exact Zlw _ (by have:=Zlg a h0;omega)
 ·unfold nNan;simp[c]
 ·unfold nM;rw[if_pos c.1]
theorem Zki(a:Int)(h0:0<=a)(h1:a<4294967296)(hi:nInf a=false)(hn:nNan a=false):
 Ieee.single.read a.toNat=.number (nMin a) (nM a).toNat (nE a)/\0<=nM a/\nM a<16777216/\-149<=nE a/\nE a<=104/\(nE a= -149\/8388608<=nM a):=by
 have c:¬ (a/8388608%256=255):=by
  intro c;unfold nInf at hi;unfold nNan at hn;rw[if_pos c]at hi hn;simp at hi hn;exact hi hn
 have hf:rg a.toNat<2139095040:=by have:=Zlg a h0;omega
 have hr:=Zlg a h0;rw[Zjy _ hf,Zxa a h0 h1];unfold nM nE mg te;rw[if_neg c,if_neg c];by_cases d:a/8388608%256=0
 ·rw[if_pos d,if_pos d,if_pos oM,show rg a.toNat/8388608-1=0 by omega,show(a%8388608).toNat=rg a.toNat by omega];exact⟨rfl,oM,oM,oM,oM,oM⟩
 ·rw[if_neg d,if_neg d,if_neg oM,show(8388608+a%8388608).toNat=8388608+rg a.toNat%8388608 by omega,show -149+((rg a.toNat/8388608-1:Nat):Int)=a/8388608%256-150 by omega];exact⟨rfl,oM,oM,oM,oM,oM⟩
theorem Znc(s1:Bool)(m1 e1:Int)(i1 n1 s2:Bool)(m2 e2:Int)(i2 n2:Bool)(w:World):
 Calls prog 151 #[.agg #[.bool s1,.int .u64 m1,.int .i64 e1,.bool i1,.bool n1],.agg #[.bool s2,.int .u64 m2,.int .i64 e2,.bool i2,.bool n2]] w fun e w'=>e=.returned (.bool (n1||n2))/\∃o p,w'=(w.alloc o).alloc p:=by
 cases n1<;>cases n2
 all_goals(
  go_enter func151,ntmps151;go_wp2;go_ret
  exact⟨rfl,_,_,rfl⟩)
theorem Zkz(s:Bool):((Ieee.single.write (.infinity s):Nat):Int)=sgn s+2139095040:=by cases s<;>decide
theorem Zoe(a b:Int){d e:Ieee.Datum}(h:Ieee.single.read a.toNat=d)(k:Ieee.single.read b.toNat=e):fmul a b=op2 ((d.product e).map Ieee.single.write):=by
 unfold fmul Ieee.Format.mul;rw[h,k]
theorem Znf(s t:Bool):(s^^t)=(s != t):=by cases s<;>cases t<;>rfl
theorem Zabf(a b:Int)(h0:0<=a)(h1:a<4294967296)(g0:0<=b)(g1:b<4294967296)(h:nNan a=true\/nNan b=true):fmul a b=2143289344:=by
 rcases h with h|h
 ·obtain⟨s,t,e⟩:=Zox a h0 h1 h;rw[Zoe a b e rfl];cases Ieee.single.read b.toNat<;>rfl
 ·obtain⟨s,t,e⟩:=Zox b g0 g1 h;rw[Zoe a b rfl e];cases Ieee.single.read a.toNat<;>rfl
theorem Zva(a:Int)(h0:0<=a)(h1:a<4294967296)(b:Int)(g0:0<=b)(g1:b<4294967296)(w:World):
 Calls prog 123 #[.int .i64 a,.int .i64 b] w fun e w'=>e=.returned (.int .i64 (fmul a b))/\Below w.heap.size w w':=by
 cases hna:nNan a
 ·cases hnb:nNan b
  ·cases hia:nInf a
   ·obtain⟨ra,a1,a2,a3,a4,-⟩:=Zki a h0 h1 hia hna;cases hib:nInf b
    ·obtain⟨rb,b1,b2,b3,b4,-⟩:=Zki b g0 g1 hib hnb;have hv:fmul a b=(Ieee.single.nearest (nMin a != nMin b) (nM a*nM b).toNat (nE a+nE b):Nat):=by
      rw[Zoe a b ra rb,show(nM a*nM b).toNat=(nM a).toNat*(nM b).toNat from Int.toNat_mul a1 b1,←Znf];rfl
     have hm:0<=nM a*nM b/\nM a*nM b<281474976710656:=by
      refine⟨Int.mul_nonneg a1 b1,?_⟩;have h1:nM a*nM b<=16777215*16777215:=Int.mul_le_mul oM oM b1 oM;omega
     have hw:IntKind.u64.wrap (nM a*nM b)=nM a*nM b:=by rw[IntKind.wrap_u64];omega
     rw[hv];clear hv ra rb;exact Zam
    ·obtain⟨rb,-,b1⟩:=Zmk b g0 g1 hib;by_cases hz:nM a=0
     ·have hv:fmul a b=2143289344:=by rw[Zoe a b ra rb,hz];rfl
      rw[hv];clear hv ra rb;exact Zam
     ·have hv:fmul a b=sgn (nMin a != nMin b)+2139095040:=by
       rw[Zoe a b ra rb,←Zkz,←Znf,Bool.xor_comm];have:(nM a).toNat≠0:=oM;simp only[Ieee.Datum.product,if_neg this];rfl
      rw[hv];clear hv ra rb;exact Zam
   ·obtain⟨ra,-,a1⟩:=Zmk a h0 h1 hia;cases hib:nInf b
    ·obtain⟨rb,b1,b2,b3,b4,-⟩:=Zki b g0 g1 hib hnb;by_cases hz:nM b=0
     ·have hv:fmul a b=2143289344:=by rw[Zoe a b ra rb,hz];rfl
      rw[hv];clear hv ra rb;exact Zam
     ·have hv:fmul a b=sgn (nMin a != nMin b)+2139095040:=by
       rw[Zoe a b ra rb,←Zkz,←Znf];have:(nM b).toNat≠0:=oM;simp only[Ieee.Datum.product,if_neg this];rfl
      rw[hv];clear hv ra rb;exact Zam
    ·obtain⟨rb,-,b1⟩:=Zmk b g0 g1 hib;have hv:fmul a b=sgn (nMin a != nMin b)+2139095040:=by
      rw[Zoe a b ra rb,←Zkz,←Znf];rfl
     rw[hv];clear hv ra rb;exact Zam
  ·have hv:=Zabf a b h0 h1 g0 g1 (Or.inr hnb);rw[hv];clear hv;exact Zam
 ·have hv:=Zabf a b h0 h1 g0 g1 (Or.inl hna);rw[hv];clear hv;exact Zam
theorem Zalh(n:Int)(h0: -9223372036854775808<=n)(h1:n<=9223372036854775807)(w:World):
 Calls prog 80 #[.int .i64 n] w fun e w'=>e=.returned (.int .i64 (Zne n))/\w'=w:=by
 unfold Zne;by_cases c:n<0
 ·rw[decide_eq_true c,show n.natAbs=(-(n+1)+1).toNat by omega];exact Zek
 ·rw[decide_eq_false c,show n.natAbs=n.toNat by omega];exact Zek
theorem Zrc(w:World)(v0 v1 v2 v3 v4:Value):(Instr.field 200 (.agg #[v0,v1,v2,v3,v4]) 4).run prog w=.ok v4 w:=by
 simp[Instr.field,run_underlying underlying200,asAgg,part,go_sem]
theorem Zadm(a b:Nat)(ha:a<9223372036854775808)(hb:b<9223372036854775808):bits .xor .i64 (a:Int) (b:Int)=((a^^^b:Nat):Int):=by
 have hx:a^^^b<2^63:=Nat.xor_lt_two_pow oM oM;show IntKind.i64.wrap ((BitVec.ofInt 64 (a:Int)^^^BitVec.ofInt 64 (b:Int)).toNat:Int)=_;rw[BitVec.toNat_xor,ofInt_u64 a oM,ofInt_u64 b oM,IntKind.wrap_i64];omega
theorem Zxu(a b:Nat)(ha:a<9223372036854775808)(hb:b<9223372036854775808):bits .andNot .i64 (a:Int) (b:Int)=((a&&& (18446744073709551615-b):Nat):Int):=by
 have hx:a&&& (18446744073709551615-b)<=a:=Nat.and_le_left;show IntKind.i64.wrap ((BitVec.ofInt 64 (a:Int)&&& ~~~BitVec.ofInt 64 (b:Int)).toNat:Int)=_;rw[BitVec.toNat_and,BitVec.toNat_not,ofInt_u64 a oM,ofInt_u64 b oM,IntKind.wrap_i64];have e:2^64-1-b=18446744073709551615-b:=oM;rw[e];omega
theorem Zags(a:Int)(h0:0<=a)(h1:a<4294967296):bits .xor .i64 a 2147483648=if 2147483648<=a then a-2147483648 else a+2147483648:=by
 rw[←Zaaj a h0 h1,u32_xor a _ h0 h1 dE dE];obtain⟨A,rfl⟩:=Int.eq_ofNat_of_zero_le h0;exact Zadm A 2147483648 oM dE
theorem Zpq(a:Int)(h0:0<=a)(h1:a<4294967296):bits .andNot .i64 a 2147483648=a%2147483648:=by
 rw[←Zye a h0 h1,u32_andNot a _ h0 h1 dE dE];obtain⟨A,rfl⟩:=Int.eq_ofNat_of_zero_le h0;rw[show(2147483648:Int)=((2147483648:Nat):Int)from rfl,Zxu A 2147483648 oM dE,Int.toNat_natCast,Int.toNat_natCast];congr 1;apply Nat.eq_of_testBit_eq;intro i;rw[Nat.testBit_and,Nat.testBit_and];rcases Nat.lt_or_ge i 32 with c|c
 ·have:∀j:Fin 32,(18446744073709551615-2147483648:Nat).testBit j.val=(4294967295-2147483648:Nat).testBit j.val:=dE;rw[this ⟨i,c⟩]
 ·have:A.testBit i=false:=Nat.testBit_lt_two_pow (Nat.lt_of_lt_of_le (show A<2^32 by omega) (Nat.pow_le_pow_right dE c));rw[this,Bool.false_and,Bool.false_and]
theorem Zaar(a:Int)(h0:0<=a)(h1:a<4294967296)(w:World):
 Calls prog 179 #[.int .i64 a] w fun e w'=>e=.returned (.int .i64 (fneg a))/\Below w.heap.size w w':=by
 have hf:=Zrc;cases hna:nNan a
 ·have hv:fneg a=if 2147483648<=a then a-2147483648 else a+2147483648:=by
   rw[Zacl a h0 h1 (by rw[←Zku a h0 h1];exact hna)];unfold flip;by_cases c:2147483648<=a
   ·rw[if_pos c,if_pos oM];omega
   ·rw[if_neg c,if_neg oM];omega
  have hx:=Zags a h0 h1;rw[hv];clear hv;generalize (if 2147483648<=a then a-2147483648 else a+2147483648)=z at *;go_enter func179,ntmps179;exact Zbd
 ·have hv:=Zaca a h0 h1 (by rw[←Zku a h0 h1];exact hna);rw[hv];clear hv;go_enter func179,ntmps179;exact Zbd
theorem Zaqi(a:Int)(h0:0<=a)(h1:a<4294967296)(w:World):
 Calls prog 180 #[.int .i64 a] w fun e w'=>e=.returned (.int .i64 (fabs a))/\Below w.heap.size w w':=by
 have hm:nan (a%2147483648)=nan a:=by unfold nan;rw[Int.emod_emod_of_dvd _ (Int.dvd_refl _)]
 unfold fabs canon;rw[hm,←Zku a h0 h1];have hx:=Zpq a h0 h1;have hf:=Zrc;cases hna:nNan a
 ·rw[if_neg dE];go_enter func180,ntmps180;exact Zbd
 ·rw[if_pos rfl];go_enter func180,ntmps180;exact Zbd
theorem Zyq(a:Int)(h0:0<=a)(h1:a<4294967296):(ng a.toNat=true/\key a= -1-(rg a.toNat:Int)/\sv a.toNat= -(mv a.toNat:Int))\/(ng a.toNat=false/\key a=(rg a.toNat:Int)/\sv a.toNat=(mv a.toNat:Int)):=by
 have hr:=Zlg a h0;rw[Zabd a h0 h1];by_cases c:2147483648<=a
 ·left;refine⟨by simpa using c,?_,?_⟩
  ·unfold key;rw[if_pos c];omega
  ·unfold sv sg;rw[Zabd a h0 h1,if_pos (by simpa using c)]
 ·right;refine⟨by simpa using c,?_,?_⟩
  ·unfold key;rw[if_neg c];omega
  ·unfold sv sg;rw[Zabd a h0 h1,if_neg (by simpa using c)]
theorem Zua(x:Nat):mv x=0↔rg x=0:=by
 unfold mv;constructor
 ·intro h;rw[←Zpm 23]at h;exact V_inj 23 h
 ·intro h;rw[h,Zpm]
theorem Zabr(a b:Int)(h0:0<=a)(h1:a<4294967296)(g0:0<=b)(g1:b<4294967296):key a<key b↔(sv a.toNat<sv b.toNat\/(rg a.toNat=0/\rg b.toNat=0/\ng a.toNat=true/\ng b.toNat=false)):=by
 have ha:=Zyq a h0 h1;have hb:=Zyq b g0 g1;have m1:mv a.toNat<mv b.toNat↔rg a.toNat<rg b.toNat:=Zabj 23 _ _;have m2:mv b.toNat<mv a.toNat↔rg b.toNat<rg a.toNat:=Zabj 23 _ _;have z1:=Zua a.toNat;have z2:=Zua b.toNat;rcases ha with⟨p,q,r⟩|⟨p,q,r⟩<;>rcases hb with⟨p',q',r'⟩|⟨p',q',r'⟩<;>rw[p,q,r,p',q',r']<;>simp only[Bool.false_eq_true,Bool.true_eq_false,and_false,or_false,and_true]<;>omega
theorem Zuj(a b:Int)(h0:0<=a)(h1:a<4294967296)(g0:0<=b)(g1:b<4294967296):sv a.toNat=sv b.toNat↔(a=b\/(a%2147483648=0/\b%2147483648=0)):=by
 have hr:=Zlg a h0;have hs:=Zlg b g0;constructor
 ·intro h;obtain⟨e,f⟩:=sv_inj h;rcases f with f|f
  ·exact Or.inl (pat_ext h0 h1 g0 g1 e f)
  ·right;omega
 ·rintro(h|⟨h,k⟩)
  ·rw[h]
  ·have z1:=(Zua a.toNat).2 oM;have z2:=(Zua b.toNat).2 oM;unfold sv sg;rw[z1,z2];simp
theorem Zart(a b:Int)(h0:0<=a)(h1:a<4294967296)(g0:0<=b)(g1:b<4294967296)(hn:nan a=false)(hm:nan b=false):fmin a b=if key b<key a then b else a:=by
 unfold fmin;rw[Ztm a b h0 g0,if_neg (by simp[hn,hm])];have hk:=Zabr b a g0 g1 h0 h1;rcases Int.lt_trichotomy (sv a.toNat) (sv b.toNat)with c|c|c
 ·have hne:¬ (key b<key a):=by
   exact Zem
  rw[Zacy c];simp only [];rw[if_neg hne]
 ·rw[Zabw c];simp only [];rcases(Zuj a b h0 h1 g0 g1).1 c with e|⟨e,f⟩
  ·subst e;split<;>simp
  ·unfold key;by_cases d1:2147483648<=a<;>by_cases d2:2147483648<=b<;>simp only[d1,d2,if_true,if_false]
   ·rw[if_neg oM]
   ·rw[if_neg oM]
   ·rw[if_pos oM]
   ·rw[if_neg oM];omega
 ·rw[Zabg c];simp only [];rw[if_pos (hk.2 (Or.inl c))]
theorem Zaqz(a b:Int)(h0:0<=a)(h1:a<4294967296)(g0:0<=b)(g1:b<4294967296)(hn:nan a=false)(hm:nan b=false):fmax a b=if key b>key a then b else a:=by
 unfold fmax;rw[Ztm a b h0 g0,if_neg (by simp[hn,hm])];have hk:=Zabr a b h0 h1 g0 g1;rcases Int.lt_trichotomy (sv a.toNat) (sv b.toNat)with c|c|c
 ·rw[Zacy c];simp only [];rw[if_pos (show key b>key a from hk.2 (Or.inl c))]
 ·rw[Zabw c];simp only [];rcases(Zuj a b h0 h1 g0 g1).1 c with e|⟨e,f⟩
  ·subst e;split<;>simp
  ·unfold key;by_cases d1:2147483648<=a<;>by_cases d2:2147483648<=b<;>simp only[d1,d2,if_true,if_false]
   ·rw[if_neg oM];omega
   ·rw[if_pos oM]
   ·rw[if_neg oM]
   ·rw[if_neg oM]
 ·have hne:¬ (key b>key a):=by
   show¬ (key a<key b);exact Zem
  rw[Zabg c];simp only [];rw[if_neg hne]
theorem Zald(a b:Int)(h0:0<=a)(h1:a<4294967296)(g0:0<=b)(g1:b<4294967296)(hn:nan a=false)(hm:nan b=false):Zpg a b=(decide (key a<key b)&& !((a%2147483648==0)&&(b%2147483648==0))):=by
 have h:=Zalx a b h0 g0;have hk:=Zabr a b h0 h1 g0 g1;have hr:=Zlg a h0;have hs:=Zlg b g0;have hz:=Zuj a b h0 h1 g0 g1;simp only[hn,hm,true_and]at h;rw[Bool.eq_iff_iff,h];simp only[Bool.and_eq_true,decide_eq_true_eq,Bool.not_eq_true',Bool.and_eq_false_iff,beq_eq_false_iff_ne];constructor
 ·intro c;refine⟨hk.2 (Or.inl c),?_⟩;by_cases e:a%2147483648=0
  ·right;intro f;have:=hz.2 (Or.inr ⟨e,f⟩);omega
  ·exact Or.inl e
 ·rintro⟨c,d⟩;rcases hk.1 c with e|⟨e1,e2,-,-⟩
  ·exact e
  ·exfalso;rcases d with d|d<;>omega
theorem Znw(a b:Int)(h0:0<=a)(g0:0<=b)(h:nan a=true\/nan b=true):Zpg a b=false/\feq a b=false/\fmin a b=2143289344/\fmax a b=2143289344:=by
 unfold Zpg feq fmin fmax;rw[Ztm a b h0 g0,if_pos h];exact⟨rfl,rfl,rfl,rfl⟩
theorem Ztc(a:Int)(h0:0<=a)(h1:a<4294967296)(w:World):
 Calls prog 157 #[.int .i64 a] w fun e w'=>e=.returned (.int .i64 (key a))/\w'=w:=by
 have hx:=Zpq a h0 h1;unfold key;by_cases c:2147483648<=a
 ·have h2:a/2147483648=1:=oM;rw[if_pos c];go_enter func157,ntmps157;go_wp2;go_ret;exact⟨Zta oM,rfl⟩
 ·have h2:a/2147483648=0:=oM;rw[if_neg c];go_enter func157,ntmps157;go_wp2;go_ret;exact⟨Zta oM,rfl⟩
theorem Zrk(a:Int)(h0:0<=a)(h1:a<4294967296)(w:World):
 Calls prog 194 #[.int .i64 a] w fun e w'=>e=.returned (.bool (a%2147483648==0))/\w'=w:=by
 have hx:=Zpq a h0 h1;go_enter func194,ntmps194;go_wp2;go_ret;exact⟨rfl,rfl⟩
theorem Zrl(a:Int)(h0:0<=a)(h1:a<4294967296)(w:World):
 Calls prog 103 #[.int .i64 a] w fun e w'=>e=.returned (.int .i64 (canon a))/\Below w.heap.size w w':=by
 have hf:=Zrc;unfold canon;rw[←Zku a h0 h1];cases hna:nNan a
 ·rw[if_neg dE];go_enter func103,ntmps103;exact Zbd
 ·rw[if_pos rfl];go_enter func103,ntmps103;exact Zbd
theorem Zaam(a:Int)(h0:0<=a)(h1:a<4294967296)(b:Int)(g0:0<=b)(g1:b<4294967296)(w:World):
 Calls prog 126 #[.int .i64 a,.int .i64 b] w fun e w'=>e=.returned (.int .i64 (fmin a b))/\Below w.heap.size w w':=by
 have ea:=Zku a h0 h1;have eb:=Zku b g0 g1;cases hna:nNan a
 ·cases hnb:nNan b
  ·rw[Zart a b h0 h1 g0 g1 Zhf Zhe];clear ea eb;by_cases c:key b<key a
   ·rw[if_pos c];go_enter func126,ntmps126;exact Zau
   ·rw[if_neg c];go_enter func126,ntmps126;exact Zau
  ·rw[(Znw a b h0 g0 (Or.inr Zhe)).2.2.1];clear ea eb;go_enter func126,ntmps126;exact Zau
 ·rw[(Znw a b h0 g0 (Or.inl Zhf)).2.2.1];clear ea eb;go_enter func126,ntmps126;exact Zau
theorem Zarc(a:Int)(h0:0<=a)(h1:a<4294967296)(b:Int)(g0:0<=b)(g1:b<4294967296)(w:World):
 Calls prog 185 #[.int .i64 a,.int .i64 b] w fun e w'=>e=.returned (.int .i64 (fmax a b))/\Below w.heap.size w w':=by
 have ea:=Zku a h0 h1;have eb:=Zku b g0 g1;cases hna:nNan a
 ·cases hnb:nNan b
  ·rw[Zaqz a b h0 h1 g0 g1 Zhf Zhe];clear ea eb;by_cases c:key b>key a
   ·rw[if_pos c];go_enter func185,ntmps185;exact Zau
   ·rw[if_neg c];go_enter func185,ntmps185;exact Zau
  ·rw[(Znw a b h0 g0 (Or.inr Zhe)).2.2.2];clear ea eb;go_enter func185,ntmps185;exact Zau
 ·rw[(Znw a b h0 g0 (Or.inl Zhf)).2.2.2];clear ea eb;go_enter func185,ntmps185;exact Zau
theorem Zalq(a:Int)(h0:0<=a)(h1:a<4294967296)(b:Int)(g0:0<=b)(g1:b<4294967296)(w:World):
 Calls prog 186 #[.int .i64 a,.int .i64 b] w fun e w'=>e=.returned (.bool (Zpg a b))/\Below w.heap.size w w':=by
 have ea:=Zku a h0 h1;have eb:=Zku b g0 g1;cases hna:nNan a
 ·cases hnb:nNan b
  ·rw[Zald a b h0 h1 g0 g1 Zhf Zhe];clear ea eb;cases za:(a%2147483648==0)<;>cases zb:(b%2147483648==0)<;>simp only[Bool.and_true,Bool.and_false,Bool.not_true,Bool.not_false]
   all_goals(
    go_enter func186,ntmps186;go_wp2_with(first
     |(go_at_call 135;refine(Zma _ oM oM _).mono ?_;rintro e w' ⟨rfl,o,rfl⟩)
     |(go_at_call 151;refine(Znc _ _ _ _ _ _ _ _ _ _ _).mono ?_;rintro e w' ⟨rfl,o,p,rfl⟩)
     |(go_at_call 157;refine(Ztc _ oM oM _).mono ?_;rintro e w' ⟨rfl,rfl⟩)
     |(go_at_call 194;refine(Zrk _ oM oM _).mono ?_;rintro e w' ⟨rfl,rfl⟩))
    go_ret
    exact⟨rfl,gG⟩)
  ·rw[(Znw a b h0 g0 (Or.inr Zhe)).1];exact Zch
 ·rw[(Znw a b h0 g0 (Or.inl Zhf)).1];exact Zch
theorem Zadn(c:Int)(e0:0<=c)(e1:c<4294967296)(a:Int)(h0:0<=a)(h1:a<4294967296)(b:Int)(g0:0<=b)(g1:b<4294967296)(w:World):
 Calls prog 187 #[.int .i64 c,.int .i64 a,.int .i64 b] w fun e w'=>e=.returned (.int .i64 (fsel c a b))/\Below w.heap.size w w':=by
 have hf:=Zrc;unfold fsel;rw[←Zku c e0 e1];cases hn:nNan c<;>cases hz:(c%2147483648==0)<;>simp only[Bool.or_true,Bool.or_false,if_true,if_false,Bool.false_eq_true]
 all_goals(
  go_enter func187,ntmps187;go_wp2_with(first
   |(go_at_call 135;refine(Zma _ oM oM _).mono ?_;rintro e w' ⟨rfl,o,rfl⟩)
   |(go_at_call 194;refine(Zrk _ oM oM _).mono ?_;rintro e w' ⟨rfl,rfl⟩)
   |(go_at_call 103;refine(Zrl _ oM oM _).mono ?_;rintro e w1 ⟨rfl,hb1⟩))
  go_ret
  exact⟨rfl,belV gG hb1⟩)
theorem Zom(a:Int)(h0:0<=a)(h1:a<4294967296)(w:World):Calls prog 63 #[.int .u32 a] w fun e w'=>e=.returned (.bool (Zkn a))/\Below w.heap.size w w':=by
 have hc:Zkn a=(canon a==a):=by unfold Zkn canon;cases nan a<;>rw[Bool.eq_iff_iff]<;>simp
 rw[hc];have HK:Hid (∀w,Calls prog 103 #[.int .i64 a] w fun e w'=>e=.returned (.int .i64 (canon a))/\Below w.heap.size w w'):=Zrl a h0 h1;have hw:IntKind.i64.wrap a=a:=by rw[IntKind.wrap_i64];omega
 clear hc;obtain⟨x,hx⟩:∃x,canon a=x:=⟨_,rfl⟩
 rw[hx]at HK ⊢;clear hx;go_enter func63,ntmps63;go_wp2_with(go_at_call 103;refine(HK.out _).mono ?_;rintro e w1 ⟨rfl,hb1⟩;have HB1:Hid _:=hb1;clear hb1);go_ret;exact⟨rfl,HB1.out⟩
theorem Zacr(s:Sl)(h0:0<=s.bits)(h1:s.bits<4294967296)(p:Option Addr)(n c:Nat)(hn:n<=140737488351232)(w:World):
 Calls prog 36 #[slV s,.slice p n c] w fun e w'=>e=.returned (.bool (Zjh s n))/\Below w.heap.size w w':=by
 have HK:Hid (∀w,Calls prog 63 #[.int .u32 s.bits] w fun e w'=>e=.returned (.bool (Zkn s.bits))/\Below w.heap.size w w'):=Zom s.bits h0 h1;have HT:Hid (∀w,Calls prog 35 #[tyV s.ty,.slice p n c] w fun e w'=>e=.returned (.bool (Zil s.ty n))/\Below w.heap.size w w'):=Ztq s.ty p n c hn;obtain⟨⟨K,P⟩,Q,B,I⟩:=s;unfold Zjh Znk slV Zlv;unfold tyV at HT;simp only at HK HT h0 h1 ⊢;obtain⟨X,hX⟩:∃X,Zkn B=X:=⟨_,rfl⟩
 obtain⟨Y,hY⟩:∃Y,Zil ⟨K,P⟩ n=Y:=⟨_,rfl⟩
 rw[hX]at HK ⊢;rw[hY]at HT ⊢;clear hX hY;cases Y
 ·rw[Bool.false_and];exact Zbp
 ·rw[Bool.true_and];by_cases h2:K=2
  ·subst h2;rw[if_pos rfl];cases hb:(B==0)
   ·have hb':(B != 0)=true:=by simpa using hb
    exact Zbq
   ·by_cases hi:0<=I
    all_goals
     exact Zbq
  ·rw[if_neg h2];have h2':(K==2)=false:=by simpa using h2
   clear h2;cases hi:(I==0)
   all_goals
    exact Zbp
structure Lt where
 a:Int
 b:Int
 c:Int
 d:Int
 e:Int
def ltR(op:Int):Lt:=
 if op=1 then⟨110,45,45,45,45⟩
 else if op=2 then⟨119,45,45,45,105⟩
 else if op=3 then⟨97,99,45,45,45⟩
 else if 4<=op/\op<=10 then⟨100,120,120,45,45⟩
 else if 11<=op/\op<=14 then⟨100,120,45,45,45⟩
 else if op=15 then⟨100,120,120,120,45⟩
 else if op=16 then⟨110,110,119,45,45⟩
 else if op=17 then⟨110,119,45,45,45⟩
 else if op=18 then⟨119,110,45,45,45⟩
 else if 19<=op/\op<=20 then⟨110,118,45,45,45⟩
 else if op=21\/op=25 then⟨119,119,45,45,45⟩
 else if op=26 then⟨119,119,119,119,45⟩
 else if 22<=op/\op<=28 then⟨119,119,119,45,45⟩
 else if 29<=op/\op<=30 then⟨118,45,45,45,112⟩
 else if op=31 then⟨45,118,45,45,112⟩
 else if op=32 then⟨97,45,45,45,115⟩
 else if op=33 then⟨45,97,45,45,115⟩
 else if op=34 then⟨45,119,45,45,45⟩
 else if op=36 then⟨45,45,45,45,113⟩
 else⟨45,45,45,45,45⟩
def dR(rs:List Ty)(l D:Int):Ty:=if l=45 then⟨0,0⟩else regT rs D
def tR(rs:List Ty)(l0 l1 D A:Int):Ty:=if l0=45/\l1≠45 then regT rs A else dR rs l0 D
def Zlm(c:Cd)(l n:Int)(t:Ty):Bool:=
 if l=105 then Zlv n
 else if l=112 then n==0||(n==1&&Zkv c.sign t.par==2)
 else if l=115 then isPl n c.slots.length&&decide (slotT c.slots n=t)
 else if l=113 then isPl n c.sign.length
 else n==0
def Zmr(c:Cd)(i:Ins)(L:Lt):Bool:=
 (i.op==1||i.bits==0)&&(Zkn i.bits&&(Zhz c.regs L.a i.d ⟨0,0⟩&&(Zhz c.regs L.b i.a (dR c.regs L.a i.d)&&(Zhz c.regs L.c i.b (dR c.regs L.a i.d)&&(Zhz c.regs L.d i.c (dR c.regs L.a i.d)&&Zlm c L.e i.n (tR c.regs L.a L.b i.d i.a))))))
theorem Zage{c:Cd}(h:Zif c=true){n:Int}(hp:isPl n c.regs.length=true):Zil (regT c.regs n) c.sign.length=true:=by
 obtain⟨k,rfl,hk⟩:=Zlz hp;rw[Zpc rfl hk];unfold Zif at h;exact List.all_eq_true.1 h _ (List.getElem_mem hk)
theorem Zaew{c:Cd}(h:Zif c=true){n:Int}(hp:isPl n c.regs.length=true)(hk:(regT c.regs n).kind=1):(regT c.regs n).par=0:=by
 have:=Zage h hp;unfold Zil at this;rw[if_pos (.inl hk)]at this;simpa using this
theorem x_eq{c:Cd}(h:Zif c=true){n m:Int}(hn:isPl n c.regs.length=true)(hm:isPl m c.regs.length=true)(hk:((regT c.regs m).kind==1||(regT c.regs m).kind==3)=true):
 ((regT c.regs n).kind==1||decide (regT c.regs n=regT c.regs m))=(decide (regT c.regs n=regT c.regs m)||((regT c.regs n).kind==1&&(regT c.regs m).kind==3)):=by
 have h1:=Zaew h hn;have h2:=Zaew h hm;generalize regT c.regs n=t at *;generalize regT c.regs m=d at *;obtain⟨K,P⟩:=t;obtain⟨A,B⟩:=d;simp only at h1 h2 hk ⊢;rw[Bool.eq_iff_iff];simp only[Bool.or_eq_true,beq_iff_eq,decide_eq_true_eq,Bool.and_eq_true,Ty.mk.injEq]at hk ⊢;constructor
 ·rintro(e|e)
  ·rcases hk with k|k
   ·exact .inl ⟨oM,by rw[h1 e,h2 k]⟩
   ·exact .inr ⟨e,k⟩
  ·exact .inl e
 ·rintro(e|e)
  ·exact .inr e
  ·exact .inl e.1
theorem told0:Zkn 0=true:=dE
theorem Zos(rs:List Ty)(n:Int)(d:Ty):Zhz rs 45 n d=(n==0):=if_pos rfl
theorem Zqc(rs:List Ty)(n:Int)(d:Ty):Zhx rs 0 n d=(n==0):=if_pos rfl
theorem Zla{l:Int}(h:l≠0)(rs:List Ty)(n:Int)(d:Ty):Zhx rs l n d=(isPl n rs.length&&Zjk l (regT rs n) d):=if_neg h
theorem Zkr{l:Int}(h:l≠45)(rs:List Ty)(n:Int)(d:Ty):Zhz rs l n d=(isPl n rs.length&&letR l (regT rs n) d):=if_neg h
theorem Zrz(rs:List Ty)(n:Int)(d m:Ty):Zhz rs 110 n d=Zhx rs 1 n m:=by rw[Zkr dE,Zla dE];rfl
theorem Zlr(rs:List Ty)(n:Int)(d m:Ty):Zhz rs 119 n d=Zhx rs 2 n m:=by rw[Zkr dE,Zla dE];rfl
theorem Zaaf(rs:List Ty)(n:Int)(d m:Ty):Zhz rs 118 n d=Zhx rs 3 n m:=by rw[Zkr dE,Zla dE];rfl
theorem Zacw(rs:List Ty)(n:Int)(d m:Ty):Zhz rs 100 n d=Zhx rs 4 n m:=by rw[Zkr dE,Zla dE];rfl
theorem Zii(rs:List Ty)(n:Int)(d m:Ty):Zhz rs 45 n d=Zhx rs 0 n m:=by rw[Zos,Zqc]
theorem Zaal(rs:List Ty)(n:Int)(d:Ty):Zhz rs 97 n d=Zhx rs 6 n (regT rs n):=by rw[Zkr dE,Zla dE];simp[letR,Zjk]
theorem oper_c(rs:List Ty)(n:Int)(d:Ty):Zhz rs 99 n d=Zhx rs 5 n d:=by rw[Zkr dE,Zla dE];simp[letR,Zjk]
theorem oper_x{c:Cd}(h:Zif c=true)(n:Int){m:Int}(hd:Zhx c.regs 4 m (regT c.regs m)=true):Zhz c.regs 120 n (regT c.regs m)=Zhx c.regs 5 n (regT c.regs m):=by
 rw[Zkr dE,Zla dE];rw[Zla dE]at hd;simp only[Bool.and_eq_true]at hd;cases hn:isPl n c.regs.length
 ·rfl
 ·rw[Bool.true_and,Bool.true_and];exact x_eq h hn hd.1 hd.2
theorem Zjo{c:Cd}{i:Ins}{L:Lt}{R:Rw}(h1:i.op≠1)(h7:R.n≠7)(ha:Zhz c.regs L.a i.d ⟨0,0⟩=Zhx c.regs R.d i.d (Zij c.regs i R))
 (hb:Zhx c.regs R.d i.d (Zij c.regs i R)=true->Zhz c.regs L.b i.a (dR c.regs L.a i.d)=Zhx c.regs R.a i.a (Zij c.regs i R))
 (hc:Zhx c.regs R.d i.d (Zij c.regs i R)=true->Zhz c.regs L.c i.b (dR c.regs L.a i.d)=Zhx c.regs R.b i.b (Zij c.regs i R))
 (hd:Zhx c.regs R.d i.d (Zij c.regs i R)=true->Zhz c.regs L.d i.c (dR c.regs L.a i.d)=Zhx c.regs R.c i.c (Zij c.regs i R))
 (he:Zlm c L.e i.n (tR c.regs L.a L.b i.d i.a)=Zph c i.n R.n (Zij c.regs i R)):Zmr c i L=Zjp c i R:=by
 unfold Zmr Zjp Zkg;rw[if_neg h7,ha,he];have:(i.op==1)=false:=by simpa using h1
 rw[this,Bool.false_or];cases hX:Zhx c.regs R.d i.d (Zij c.regs i R)
 ·simp
 ·rw[hb hX,hc hX,hd hX];cases hb:(i.bits==0)
  ·simp
  ·have:i.bits=0:=by simpa using hb
   rw[this,told0];simp
theorem Zacq{c:Cd}(h:Zif c=true)(i:Ins):Zmr c i (ltR i.op)=Zjp c i (rowP i.op):=by
 have x:=fun n=>@oper_x c h n i.d;by_cases h1:i.op=1
 ·have e1:ltR i.op=⟨110,45,45,45,45⟩:=by rw[h1];rfl
  have e2:rowP i.op=⟨1,0,0,0,7⟩:=by rw[h1];rfl
  rw[e1,e2];unfold Zmr Zjp Zkg;simp only;rw[h1,Zrz _ _ _ (Zij c.regs i ⟨1,0,0,0,7⟩),Zos,Zos,Zos,Zqc,Zqc,Zqc];rw[show Zlm c 45 i.n (tR c.regs 110 45 i.d i.a)=(i.n==0)from rfl];generalize Zhx c.regs 1 i.d _=A1;cases A1<;>cases Zkn i.bits<;>simp
 unfold ltR rowP;rw[if_neg h1,if_neg h1];by_cases h2:i.op=2
 ·rw[if_pos h2,if_pos h2];exact Zjo h1 dE (Zlr _ _ _ _) (fun _=>Zii _ _ _ _) (fun _=>Zii _ _ _ _) (fun _=>Zii _ _ _ _) rfl
 rw[if_neg h2,if_neg h2];by_cases h3:i.op=3
 ·rw[if_pos h3,if_pos h3];exact Zjo h1 dE (Zaal _ _ _) (fun _=>oper_c _ _ _) (fun _=>Zii _ _ _ _) (fun _=>Zii _ _ _ _) rfl
 rw[if_neg h3,if_neg h3];by_cases h4:4<=i.op/\i.op<=10
 ·rw[if_pos h4,if_pos h4];exact Zjo h1 dE (Zacw _ _ _ _) (x _) (x _) (fun _=>Zii _ _ _ _) rfl
 rw[if_neg h4,if_neg h4];by_cases h5:11<=i.op/\i.op<=14
 ·rw[if_pos h5,if_pos h5];exact Zjo h1 dE (Zacw _ _ _ _) (x _) (fun _=>Zii _ _ _ _) (fun _=>Zii _ _ _ _) rfl
 rw[if_neg h5,if_neg h5];by_cases h6:i.op=15
 ·rw[if_pos h6,if_pos h6];exact Zjo h1 dE (Zacw _ _ _ _) (x _) (x _) (x _) rfl
 rw[if_neg h6,if_neg h6];by_cases h7:i.op=16
 ·rw[if_pos h7,if_pos h7];exact Zjo h1 dE (Zrz _ _ _ _) (fun _=>Zrz _ _ _ _) (fun _=>Zlr _ _ _ _) (fun _=>Zii _ _ _ _) rfl
 rw[if_neg h7,if_neg h7];by_cases h8:i.op=17
 ·rw[if_pos h8,if_pos h8];exact Zjo h1 dE (Zrz _ _ _ _) (fun _=>Zlr _ _ _ _) (fun _=>Zii _ _ _ _) (fun _=>Zii _ _ _ _) rfl
 rw[if_neg h8,if_neg h8];by_cases h9:i.op=18
 ·rw[if_pos h9,if_pos h9];exact Zjo h1 dE (Zlr _ _ _ _) (fun _=>Zrz _ _ _ _) (fun _=>Zii _ _ _ _) (fun _=>Zii _ _ _ _) rfl
 rw[if_neg h9,if_neg h9];by_cases h10:19<=i.op/\i.op<=20
 ·rw[if_pos h10,if_pos h10];exact Zjo h1 dE (Zrz _ _ _ _) (fun _=>Zaaf _ _ _ _) (fun _=>Zii _ _ _ _) (fun _=>Zii _ _ _ _) rfl
 rw[if_neg h10,if_neg h10];by_cases h11:i.op=21\/i.op=25
 ·rw[if_pos h11,if_pos h11];exact Zjo h1 dE (Zlr _ _ _ _) (fun _=>Zlr _ _ _ _) (fun _=>Zii _ _ _ _) (fun _=>Zii _ _ _ _) rfl
 rw[if_neg h11,if_neg h11];by_cases h12:i.op=26
 ·rw[if_pos h12,if_pos h12];exact Zjo h1 dE (Zlr _ _ _ _) (fun _=>Zlr _ _ _ _) (fun _=>Zlr _ _ _ _) (fun _=>Zlr _ _ _ _) rfl
 rw[if_neg h12,if_neg h12];by_cases h13:22<=i.op/\i.op<=28
 ·rw[if_pos h13,if_pos h13];exact Zjo h1 dE (Zlr _ _ _ _) (fun _=>Zlr _ _ _ _) (fun _=>Zlr _ _ _ _) (fun _=>Zii _ _ _ _) rfl
 rw[if_neg h13,if_neg h13];by_cases h14:29<=i.op/\i.op<=30
 ·rw[if_pos h14,if_pos h14];exact Zjo h1 dE (Zaaf _ _ _ _) (fun _=>Zii _ _ _ _) (fun _=>Zii _ _ _ _) (fun _=>Zii _ _ _ _) rfl
 rw[if_neg h14,if_neg h14];by_cases h15:i.op=31
 ·rw[if_pos h15,if_pos h15];exact Zjo h1 dE (Zii _ _ _ _) (fun _=>Zaaf _ _ _ _) (fun _=>Zii _ _ _ _) (fun _=>Zii _ _ _ _) rfl
 rw[if_neg h15,if_neg h15];by_cases h16:i.op=32
 ·rw[if_pos h16,if_pos h16];exact Zjo h1 dE (Zaal _ _ _) (fun _=>Zii _ _ _ _) (fun _=>Zii _ _ _ _) (fun _=>Zii _ _ _ _) rfl
 rw[if_neg h16,if_neg h16];by_cases h17:i.op=33
 ·rw[if_pos h17,if_pos h17];exact Zjo h1 dE (Zii _ _ _ _) (fun _=>Zaal _ _ _) (fun _=>Zii _ _ _ _) (fun _=>Zii _ _ _ _) rfl
 rw[if_neg h17,if_neg h17];by_cases h18:i.op=34
 ·rw[if_pos h18,if_pos h18];exact Zjo h1 dE (Zii _ _ _ _) (fun _=>Zlr _ _ _ _) (fun _=>Zii _ _ _ _) (fun _=>Zii _ _ _ _) rfl
 rw[if_neg h18,if_neg h18];by_cases h19:i.op=36
 ·rw[if_pos h19,if_pos h19];exact Zfi
 rw[if_neg h19,if_neg h19];exact Zfi
end Go.Proofs.YtbinohkcolcbfaaGreat
