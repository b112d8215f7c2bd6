import Derived.Test.YtnbccaicijcklaaTks7
import Derived.Test.YtnbccaicijcklaaTks6
import Derived.Maps.OwnSet
import Derived.Test.YtnbccaicijcklaaTks1
import Derived.Test.YtnbccaicijcklaaTks2
namespace Go.Proofs.Ytnbccaicijcklaa
open Go.RowKit Go.Proofs.Try
set_option linter.all false
set_option maxRecDepth 100000
set_option maxHeartbeats 16000000
section
open Go.RowKit Go.Maps Go.Proofs.Try
theorem Gh(v:Value)(l:List Bt)(hl:l.length<=140737488351232)(hM:∀p∈l,p.name.size<=140737488351232)(w:World)(hr:Rd w v l):
 Calls prog 71 #[v,.func (.func 53) #[] #[]] w fun e w'=>(∃x:Int,e=.returned (.int .i64 x)/\-1<=x/\(0<=x↔l.all Bl=false))/\Below w.heap.size w w':=by
 obtain⟨p,c,rfl,hr⟩:=hr;obtain⟨n,hn⟩:∃n,l.length=n:=⟨_,rfl⟩
 rw[hn]at hl ⊢;have HN:Hid (l.length=n):=hn;have HR:Hid (LO w p l):=hr;have HM:Hid (∀p∈l,p.name.size<=140737488351232):=hM;clear hn hr hM;go_enter func71,ntmps71;go_wp2
 go_loopw [8] (fun iv wr=>Below w.heap.size w wr/\∃j:Nat,j<=n/\iv=.int .i64 j/\Hid (∀i (h:i<l.length),i<j->Bl l[i]=true)) (fun iv _=>n-(intOf iv).toNat)
 case atStart=>exact⟨C9 w,0,Nat.zero_le _,rfl,fun i h hi=>absurd hi (Nat.not_lt_zero _)⟩
 case round=>
  obtain⟨hb,j,hj,rfl,hp⟩:=hrel;by_cases hlt:j<n
  ·have hll:j<l.length:=by rw[HN.out];exact hlt
   obtain⟨b,o,rfl,hx⟩:=HR.out.at hll;obtain⟨x0,x1,x2⟩:=hx.below hb;have i1:(0:Int)<=(j:Int):=oM;have i2:(j:Int)<(n:Int):=oM;have KN:=FQ l[j] (HM.out _ (List.getElem_mem hll));unfold pv at KN;have NX:Hid (Bl l[j]=true->∀i (h:i<l.length),i<j+1->Bl l[i]=true):=fun hq i h hi=>by
    exact Pp
   have NB:Hid (Bl l[j]=false->l.all Bl=false):=fun h=>List.all_eq_false.2 ⟨l[j],List.getElem_mem hll,by rw[h];decide⟩;obtain⟨N,hN⟩:∃N,Bl l[j]=N:=⟨_,rfl⟩
   rw[hN]at NX NB;simp only[hN]at KN;have HK:Hid (∀w,Calls prog 53 #[.agg #[.string l[j].name,.int .i64 l[j].kind,.int .i64 l[j].len]] w fun e w'=>e=.returned (.bool (!N))/\Below w.heap.size w w'):=KN;clear KN hN hp hx;cases N
   ·go_wp2_with(go_at_call 53;refine(HK.out _).mono ?_;rintro e w1 ⟨rfl,hb3⟩);go_ret;exact⟨⟨_,rfl,oM,⟨fun _=>NB.out sM,fun _=>by omega⟩⟩,bel hb hb3⟩
   ·go_wp2_with(go_at_call 53;refine(HK.out _).mono ?_;rintro e w1 ⟨rfl,hb3⟩);go_roundw
    case rel=>exact⟨bel hb hb3,j+1,oM,gN,NX.out sM⟩
    case measure=>simp[intOf];omega
  ·have:j=n:=oM;subst this;have HF:Hid (l.all Bl=true):=List.all_eq_true.2 fun q hq=>by
    obtain⟨i,hi,rfl⟩:=List.mem_iff_getElem.1 hq;exact QH
   clear hp;go_wp2;go_ret;exact⟨⟨_,rfl,oM,⟨fun h=>absurd h oM,fun h=>absurd h (by rw[HF.out];decide)⟩⟩,hb⟩
theorem GR(v:Value)(l:List Bt)(hl:l.length<=140737488351232)(hM:∀p∈l,p.name.size<=140737488351232)(w:World)(hr:Rd w v l):
 Calls prog 52 #[v,.func (.func 53) #[] #[]] w fun e w'=>e=.returned (.bool (!l.all Bl))/\Below w.heap.size w w':=by
 have HK:Hid (Calls prog 71 #[v,.func (.func 53) #[] #[]] w fun e w'=>(∃x:Int,e=.returned (.int .i64 x)/\-1<=x/\(0<=x↔l.all Bl=false))/\Below w.heap.size w w'):=Gh v l hl hM w hr;obtain⟨N,hN⟩:∃N,l.all Bl=N:=⟨_,rfl⟩
 rw[hN]at HK ⊢;clear hN;go_enter func52,ntmps52;go_wp2_with(go_at_call 71;refine HK.out.mono ?_;rintro e w1 ⟨⟨x,rfl,hx1,hx2⟩,hb1⟩;have HX:Hid (0<=x↔N=false):=hx2;clear hx2);go_ret;refine⟨A8 ?_,hb1⟩;have:=HX.out;cases N
 ·simp only[Bool.not_false,decide_eq_true_eq];exact this.2 rfl
 ·simp only[Bool.not_true,decide_eq_false_iff_not];intro h;exact absurd (this.1 h) dE
end
section
open Go.RowKit Go.Maps Go.WideMaps Go.Proofs.Try
def Ee(s:ByteArray):Lit:=.string s.data.toList
theorem I4{a b:ByteArray}(h:Ee a=Ee b):a=b:=by
 unfold Ee at h;injection h with h;exact LZ h
theorem Cp(s:ByteArray):∀ (l:List Bt) (p:Bt),AK s (l++[p])=match AK s l with |some i=>some i|none=>if p.name=s then some l.length else none
 |[],p=>by simp[AK]
 |q::l,p=>by
  rw[List.cons_append];simp only[AK];by_cases h:q.name=s
  ·rw[if_pos h,if_pos h]
  ·rw[if_neg h,if_neg h,Cp s l p];cases AK s l with
   |some i=>rfl
   |none=>
    simp only[Option.map_none];split
    ·rfl
    ·rfl
theorem I0(s:ByteArray):∀ (l:List Bt),(AK s l).isSome=l.any fun q=>decide (q.name=s)
 |[]=>rfl
 |q::l=>by
  simp only[AK,List.any_cons];by_cases h:q.name=s
  ·rw[if_pos h];simp[h]
  ·rw[if_neg h,Option.isSome_map,I0 s l];simp[h]
theorem Do:∀ (l:List Bt) (p:Bt),Be (l++[p])=(Be l||(AK p.name l).isSome)
 |[],p=>rfl
 |q::l,p=>by
  rw[List.cons_append];simp only[Be,List.any_append,List.any_cons,List.any_nil,Do l p,I0];have e:decide (p.name=q.name)=decide (q.name=p.name):=by rw[decide_eq_decide];exact eq_comm
  rw[e];cases(l.any fun r=>decide (r.name=q.name))<;>cases(Be l)<;>cases(decide (q.name=p.name))<;>cases(l.any fun r=>decide (r.name=p.name))<;>rfl
structure CL(l:List Bt)(D:DataW Unit):Prop where
 has:∀s,Maps.has D (Ee s)=(AK s l).isSome
 val:∀s i z,AK s l=some i->D.atKey (Ee s) z=.lit (.int .i64 (i:Int))
 no:Be l=false->Maps.size D=l.length
 yes:Be l=true->Maps.size D<l.length
theorem IW:CL [] (.map []):=⟨fun _=>rfl,fun s i z h=>by simp[AK]at h,fun _=>rfl,fun h=>by simp[Be]at h⟩
theorem IX{l:List Bt}{D:DataW Unit}(h:CL l D){p:Bt}(hh:Maps.has D (Ee p.name)=true):CL (l++[p]) D:=by
 have hp:(AK p.name l).isSome=true:=by rw[←h.has];exact hh
 have hf:∀s,AK s (l++[p])=AK s l:=fun s=>by
  rw[Cp];cases e:AK s l with
  |some i=>rfl
  |none=>
   simp only;rw[if_neg];rintro rfl;rw[e]at hp;exact absurd hp dE
 have hle:Maps.size D<=l.length:=by
  cases e:Be l
  ·exact Nat.le_of_eq (h.no e)
  ·exact Nat.le_of_lt (h.yes e)
 refine⟨fun s=>by rw[hf];exact h.has s,fun s i z e=>h.val s i z (by rw[←hf];exact e),fun e=>?_,fun e=>?_⟩
 ·rw[Do,hp,Bool.or_true]at e;exact absurd e dE
 ·simp only[List.length_append,List.length_cons,List.length_nil];omega
theorem IV{l:List Bt}{D:DataW Unit}(h:CL l D)(ht:Tidy D){p:Bt}(hh:Maps.has D (Ee p.name)=false):CL (l++[p]) (D.put (Ee p.name) (.lit (.int .i64 (l.length:Int)))):=by
 have hp:(AK p.name l).isSome=false:=by rw[←h.has];exact hh
 have hpn:AK p.name l=none:=by simpa using hp
 have hsz:Maps.size (D.put (Ee p.name) (.lit (.int .i64 (l.length:Int))))=Maps.size D+1:=by rw[size_put ht,hh];rfl
 refine⟨fun s=>?_,fun s i z e=>?_,fun e=>?_,fun e=>?_⟩
 ·by_cases hs:s=p.name
  ·subst hs;rw[has_put_same ht.isMap (show WideAt.IsKeyLit (Ee p.name)from trivial),Cp,hpn];simp
  ·rw[has_put_other (fun e=>hs (I4 e)),h.has,Cp];cases e:AK s l with
   |some i=>rfl
   |none=>simp only;rw[if_neg (fun e=>hs e.symm)]
 ·by_cases hs:s=p.name
  ·subst hs;rw[Cp,hpn]at e;simp at e;subst e;exact atKey_put_same ht.isMap (show WideAt.IsKeyLit (Ee p.name)from trivial) _ _
  ·rw[atKey_put_other (fun e=>hs (I4 e))];refine h.val s i z ?_;rw[Cp]at e;cases e2:AK s l with
   |some j=>rw[e2]at e;exact e
   |none=>rw[e2]at e;simp only at e;rw[if_neg (fun e=>hs e.symm)]at e;exact absurd e sM
 ·rw[Do,hp,Bool.or_false]at e;rw[hsz,h.no e];simp
 ·rw[Do,hp,Bool.or_false]at e;have:=h.yes e;rw[hsz];simp only[List.length_append,List.length_cons,List.length_nil];omega
theorem On:Keyed prog 9:=string_keyed underlying9
theorem Pl(w:World):(zeroValue 3).run prog w=.ok (.int .i64 0) w:=kR
def DA(w:World)(b n:Nat)(D:DataW Unit):Prop:=w.ownsMap prog 9 (plainElem prog 3) b n D
theorem DA.below{w w':World}{b n:Nat}{D:DataW Unit}(h:DA w b n D)(k:Below w.heap.size w w'):DA w' b n D:=
 World.ownsMap.kept h (row:=none) ⟨k.os,k.tape,k.output,k.size,fun j hj _=>k.block j hj⟩ sM
theorem IU(v:Value)(l:List Bt)(hl:l.length<=140737488351232)(hM:∀p∈l,p.name.size<=140737488351232)(w:World)(hr:Rd w v l):
 Calls prog 54 #[v] w fun e w'=>∃D,e=.returned (.map (some w.heap.size))/\DA w' w.heap.size l.length D/\CL l D/\Below w.heap.size w w':=by
 obtain⟨p,c,rfl,hr⟩:=hr;obtain⟨n,hn⟩:∃n,l.length=n:=⟨_,rfl⟩
 rw[hn]at hl ⊢;have HN:Hid (l.length=n):=hn;have HR:Hid (LO w p l):=hr;have HM:Hid (∀p∈l,p.name.size<=140737488351232):=hM;clear hn hr hM;have hmm:=@run_makeMap prog;go_enter func54,ntmps54;go_wp2
 go_loopw [11] (fun iv wr=>Below w.heap.size w wr/\∃j:Nat,j<=n/\iv=.int .i64 j/\∃D,Hid (DA wr w.heap.size j D/\CL (l.take j) D)) (fun iv _=>n-(intOf iv).toNat)
 case atStart=>exact⟨A0 _ _,0,Nat.zero_le _,rfl,.map [],World.ownsMap_made _ _ _ _,IW⟩
 case round=>
  obtain⟨hb,j,hj,rfl,D,hD⟩:=hrel;by_cases hlt:j<n
  ·have hll:j<l.length:=by rw[HN.out];exact hlt
   obtain⟨b,o,rfl,hx⟩:=HR.out.at hll;obtain⟨x0,x1,x2⟩:=hx.below hb;have i1:(0:Int)<=(j:Int):=oM;have i2:(j:Int)<(n:Int):=oM;have hkey:keyOf prog 9 (.string l[j].name)=some (Ee l[j].name):=keyOf_string_mk underlying9 (by have:=HM.out _ (List.getElem_mem hll);unfold maxLen;omega);have HT:Hid (l.take (j+1)=l.take j++[l[j]]/\(l.take j).length=j):=⟨Fc hll,by rw[List.length_take];omega⟩
   have hwf:(Lit.int .i64 (j:Int)).wf=true:=WalkArith.wf_i64 oM;have hown:Hid (DA (wr.alloc (.cells #[.string l[j].name,.int .i64 l[j].kind,.int .i64 l[j].len] 42)) w.heap.size j D):=hD.out.1.below (A0 _ _);have HF:Hid (CL (l.take j) D):=hD.out.2;clear hD hx;cases hsn:Maps.has D (Ee l[j].name)
   ·have HS:Hid (Maps.has D (Ee l[j].name)=false):=hsn;have tok:True:=trivial;clear hsn;go_wp2_with(first
     |(at_lookup;have _t:=tok;refine wpList_lookup_own_ok_int _ rfl _ _ 111 rfl 9 3 .i64 On underlying111 underlying3 (Pl _) w.heap.size j D rfl hown.out _ _ rfl hkey ?_;intro c hat hwc;rw[HS.out];clear hat hwc tok)
     |(at_mapUpdate;refine wpList_mapUpdate_own _ rfl _ _ _ 111 rfl 9 3 On underlying111 _ w.heap.size j D rfl hown.out mL _ _ _ rfl rfl hkey _ [] (plainElem_int underlying3 hwf) ?_;intro w1 hown1 hgrow1;have H1:Hid (DA w1 w.heap.size (j+1) (D.put (Ee l[j].name) (.lit (.int .i64 (j:Int))))/\World.grownBy _ w1 (some w.heap.size)):=⟨hown1,hgrow1⟩;clear hown1 hgrow1))
    go_roundw
    case rel=>
     refine⟨?_,j+1,oM,gN,_,H1.out.1,?_⟩
     ·exact Below.grown (bel hb (A0 _ _)) H1.out.2 (by have:=hb.size;simp;omega) (fun k e=>by cases e;exact Nat.le_refl _)
     ·rw[HT.out.1];have:=IV HF.out (World.ownsMap.tidy hown.out On) HS.out;rw[HT.out.2]at this;exact this
    case measure=>simp[intOf];omega
   ·have HS:Hid (Maps.has D (Ee l[j].name)=true):=hsn;clear hsn;go_wp2_with(at_lookup;refine wpList_lookup_own_ok_int _ rfl _ _ 111 rfl 9 3 .i64 On underlying111 underlying3 (Pl _) w.heap.size j D rfl hown.out _ _ rfl hkey ?_;intro c hat hwc;rw[HS.out];clear hat hwc);go_roundw
    case rel=>
     refine⟨bel hb (A0 _ _),j+1,oM,gN,D,World.ownsMap.mono hown.out (Nat.le_succ _),?_⟩;rw[HT.out.1];exact IX HF.out HS.out
    case measure=>simp[intOf];omega
  ·have:j=n:=oM;subst this;have HF:Hid (DA wr w.heap.size j D/\CL l D):=⟨hD.out.1,by have:=hD.out.2;rw[List.take_of_length_le (by rw[HN.out];exact Nat.le_refl _)]at this;exact this⟩
   clear hD;go_wp2;go_ret;exact⟨D,rfl,HF.out.1,HF.out.2,hb⟩
end
section
open Go.RowKit Go.Maps Go.WideMaps Go.Proofs.Try
theorem Jr(v:Value)(l:List Bt)(hl:l.length<=140737488351232)(hM:∀p∈l,p.name.size<=140737488351232)(w:World)(hr:Rd w v l):
 Calls prog 38 #[v] w fun e w'=>e=.returned (.int .i64 (AU l))/\Below w.heap.size w w':=by
 have K1:=GR v l hl hM w hr;have K2:=fun w h=>IU v l hl hM w h;have K3:=fun w h=>Js v l hl hM w h;have HR:Hid (Rd w v l):=hr;have htb:=Ev l;unfold AU;obtain⟨p,c,rfl,_⟩:=hr;obtain⟨n,hn⟩:∃n,l.length=n:=⟨_,rfl⟩
 obtain⟨N,hN⟩:∃N,l.all Bl=N:=⟨_,rfl⟩
 obtain⟨T,hT⟩:∃T,BO l=T:=⟨_,rfl⟩
 rw[hn]at K1 K2 K3 HR hl htb ⊢;rw[hN]at K1 ⊢;rw[hT]at htb ⊢;simp only[hT]at K3;have HK1:Hid (Calls prog 52 #[.slice p n c,.func (.func 53) #[] #[]] w fun e w'=>e=.returned (.bool (!N))/\Below w.heap.size w w'):=K1;have HK2:Hid (∀w,Rd w (.slice p n c) l->Calls prog 54 #[.slice p n c] w fun e w'=>∃D,e=.returned (.map (some w.heap.size))/\DA w' w.heap.size n D/\CL l D/\Below w.heap.size w w'):=K2;have HK3:Hid (∀w,Rd w (.slice p n c) l->Calls prog 55 #[.slice p n c] w fun e w'=>e=.returned (.int .i64 T)/\Below w.heap.size w w'):=K3;have HN:Hid (l.length=n):=hn;clear K1 K2 K3 hN hT hM hn;by_cases h64:n>64
 ·have h64':(64:Int)<(n:Int):=oM;rw[if_pos h64];clear h64;go_enter func38,ntmps38;go_wp2
  all_goals(go_ret;exact⟨rfl,C9 w⟩)
 ·have h64':¬ (64:Int)<(n:Int):=oM;rw[if_neg h64];clear h64;cases N
  ·rw[if_pos rfl];go_enter func38,ntmps38;go_wp2_with(go_at_call 52;refine HK1.out.mono ?_;rintro e w1 ⟨rfl,hb1⟩)
   all_goals(go_ret;exact⟨rfl,hb1⟩)
  ·rw[if_neg dE];cases htw:Be l
   ·rw[if_neg dE];have HW:Hid (Be l=false):=htw;clear htw;by_cases h3:T>65536
    ·rw[if_pos h3];have h3':(65536:Int)<T:=oM;exact RU
    ·rw[if_neg h3];have h3':¬ (65536:Int)<T:=oM;exact RU
   ·rw[if_pos rfl];have HW:Hid (Be l=true):=htw;clear htw;go_enter func38,ntmps38;go_wp2_with(first
     |(go_at_call 52;refine HK1.out.mono ?_;rintro e w1 ⟨rfl,hb1⟩)
     |(go_at_call 54;refine(HK2.out _ (HR.out.below hb1)).mono ?_;rintro e w2 ⟨D,rfl,hm,hf,hb2⟩;have HM1:Hid (DA w2 w1.heap.size n D):=hm;have hs:Maps.size D<n:=(by have:=hf.yes HW.out;rw[HN.out]at this;exact this);have hs2:(Maps.size D:Int)<(n:Int):=oM;clear hm hf hs)
     |(have _t:=HM1;at_len;refine wpList_len_own _ rfl _ 111 rfl 9 3 underlying111 _ w1.heap.size n D rfl HM1.out ?_;clear HM1))
    all_goals(go_ret;exact⟨rfl,bel hb1 hb2⟩)
end
theorem Gf(C:Nat)(v0 v1 v2 v3:Value)(c:Cd)(hk:Ba c)(w:World)(hc:BC w C v0 v1 v2 v3 c):
 Calls prog 39 #[.pointer (some ⟨C,0,none⟩)] w fun e w'=>e=.returned (.bool (Ap c))/\Below w.heap.size w w':=by
 obtain⟨hcc,hcv⟩:=hc;have c0:=hcc.at 0 rfl;have c1:=hcc.at 1 rfl;rw[Nat.zero_add]at c0 c1;have hC:=Ab c0;simp only at hC;have hr:=hcv.regs;obtain⟨p,q,rfl,hrr⟩:=hcv.regs;obtain⟨p0,q0,rfl,hrr0⟩:=hcv.sign;have HB:=hk.regsL;have HB0:=hk.signL;unfold Ap;obtain⟨M,hM⟩:∃M,c.sign.length=M:=⟨_,rfl⟩
 rw[hM]at c0 HB0 ⊢;obtain⟨l,hl⟩:∃l,c.regs=l:=⟨_,rfl⟩
 rw[hl]at c1 hr HB ⊢;obtain⟨N,hN⟩:∃N,l.length=N:=⟨_,rfl⟩
 have HN:Hid (l.length=N):=hN;rw[hN]at c1 hr HB;have HR:Hid (AR 2 Du w (.slice p N q) l):=hr;clear hl hM hN hr hrr hrr0 hcc hcv hk;go_enter func39,ntmps39;go_wp2
 go_loopw [10] (fun iv wr=>Below w.heap.size w wr/\∃j:Nat,j<=N/\iv=.int .i64 j/\Hid (∀i (h:i<l.length),i<j->AE l[i] M=true)) (fun iv _=>N-(intOf iv).toNat)
 case atStart=>exact⟨C9 w,0,Nat.zero_le _,rfl,fun i h hi=>absurd hi (Nat.not_lt_zero _)⟩
 case round=>
  obtain⟨hb,j,hj,rfl,hp⟩:=hrel;by_cases hlt:j<N
  ·have hll:j<l.length:=by rw[HN.out];exact hlt
   obtain⟨b,o,rfl,hx⟩:=HR.out.at hll;have hx':=hx.below hb;have x0:=hx'.at 0 rfl;have x1:=hx'.at 1 rfl;rw[Nat.add_zero]at x0;have z0:=kc hb c0;have hC2:=Ab z0;have hb2:=Ab x0;simp only at hC2 hb2;have n1:C≠wr.heap.size:=oM;have n2:b≠wr.heap.size:=oM;have i1:(0:Int)<=(j:Int):=oM;have i2:(j:Int)<(N:Int):=oM;have KN:=Eh l[j] p0 M q0 HB0;have NX:Hid (AE l[j] M=true->∀i (h:i<l.length),i<j+1->AE l[i] M=true):=fun hq i h hi=>by
    exact Pp
   have NB:Hid (AE l[j] M=false->(l.all fun t=>AE t M)=false):=fun h=>List.all_eq_false.2 ⟨l[j],List.getElem_mem hll,by rw[h];decide⟩;obtain⟨T,hT⟩:∃T,l[j]=T:=⟨_,rfl⟩
   rw[hT]at x0 x1 KN NX NB;obtain⟨X,hX⟩:∃X,AE T M=X:=⟨_,rfl⟩
   rw[hX]at NX NB;simp only[hX]at KN;obtain⟨K,P⟩:=T;unfold CP at KN;simp only at x0 x1 KN;have HK:Hid (∀w,Calls prog 56 #[.agg #[.int .i64 K,.int .i64 P],.slice p0 M q0] w fun e w'=>e=.returned (.bool X)/\Below w.heap.size w w'):=KN;have HC:Hid (∀v,Below (wr.alloc (.cells #[.int .i64 K,.int .i64 P] 50)).heap.size (wr.alloc (.cells #[.int .i64 K,.int .i64 P] 50)) v->v.cell? ⟨C,0,none⟩=some (.slice p0 M q0)/\v.cell? ⟨wr.heap.size,0,none⟩=some (.int .i64 K)/\v.cell? ⟨wr.heap.size,1,none⟩=some (.int .i64 P)):=
    fun v hv=>⟨kc hv (kc (A0 _ _) z0),kc hv sG,kc hv sG⟩
   have f1:=(HC.out _ (C9 _)).1;clear KN hT hX hp hx hx';cases X
   ·go_wp2;refine rG (fun v=>v.cell? ⟨C,0,none⟩=some (.slice p0 M q0)/\v.cell? ⟨wr.heap.size,0,none⟩=some (.int .i64 K)/\v.cell? ⟨wr.heap.size,1,none⟩=some (.int .i64 P)) fun hHeld=>?_;refine Tc 0 1 2 ?_;refine Tb 3 4 ?_;clear hHeld;refine Ax 5 fun K hK=>?_;go_simp;(go_at_call 56;refine(HK.out _).mono ?_;rintro e w1 ⟨rfl,hb1⟩;have HB1:=bel (Ae _) hb1;obtain⟨y0,y1,y2⟩:=HC.out w1 HB1);try(go_wp2_with fail)
    refine Aw hK fun hHeld=>?_;clear hK K;refine Bw 6 ?_;refine wpAnyH_done kR ?_ _;go_wp2;go_ret;exact⟨A8 (NB.out sM).symm,bel hb (bel (A0 _ _) HB1)⟩
   ·go_wp2;refine rG (fun v=>v.cell? ⟨C,0,none⟩=some (.slice p0 M q0)/\v.cell? ⟨wr.heap.size,0,none⟩=some (.int .i64 K)/\v.cell? ⟨wr.heap.size,1,none⟩=some (.int .i64 P)) fun hHeld=>?_;refine Tc 0 1 2 ?_;refine Tb 3 4 ?_;clear hHeld;refine Ax 5 fun K hK=>?_;go_simp;(go_at_call 56;refine(HK.out _).mono ?_;rintro e w1 ⟨rfl,hb1⟩;have HB1:=bel (Ae _) hb1;obtain⟨y0,y1,y2⟩:=HC.out w1 HB1);try(go_wp2_with fail)
    refine Aw hK fun hHeld=>?_;clear hK K;refine Bw 6 ?_;refine wpAnyH_done kR ?_ _;go_wp2;go_roundw
    case rel=>exact⟨bel hb (bel (A0 _ _) HB1),j+1,oM,gN,NX.out sM⟩
    case measure=>simp[intOf];omega
  ·have:j=N:=oM;subst this;have HF:Hid ((l.all fun t=>AE t M)=true):=List.all_eq_true.2 fun t ht=>by
    obtain⟨i,hi,rfl⟩:=List.mem_iff_getElem.1 ht;exact QH
   clear hp;go_wp2;go_ret;exact⟨A8 HF.out.symm,hb⟩
theorem Ga(C:Nat)(v0 v1 v2 v3:Value)(c:Cd)(hk:Ba c)(w:World)(hc:BC w C v0 v1 v2 v3 c):
 Calls prog 40 #[.pointer (some ⟨C,0,none⟩)] w fun e w'=>e=.returned (.bool (Bn c))/\Below w.heap.size w w':=by
 obtain⟨hcc,hcv⟩:=hc;have c0:=hcc.at 0 rfl;have c1:=hcc.at 2 rfl;rw[Nat.zero_add]at c0 c1;have hC:=Ab c0;simp only at hC;have hr:=hcv.slots;obtain⟨p,q,rfl,hrr⟩:=hcv.slots;obtain⟨p0,q0,rfl,hrr0⟩:=hcv.sign;have HB:=hk.slotsL;have HB0:=hk.signL;have HSB:Hid (∀s∈c.slots,0<=s.bits/\s.bits<4294967296):=hk.sbits;unfold Bn;obtain⟨M,hM⟩:∃M,c.sign.length=M:=⟨_,rfl⟩
 rw[hM]at c0 HB0 ⊢;obtain⟨l,hl⟩:∃l,c.slots=l:=⟨_,rfl⟩
 rw[hl]at c1 hr HB HSB ⊢;obtain⟨N,hN⟩:∃N,l.length=N:=⟨_,rfl⟩
 have HN:Hid (l.length=N):=hN;rw[hN]at c1 hr HB;have HR:Hid (AR 5 E8 w (.slice p N q) l):=hr;clear hl hM hN hr hrr hrr0 hcc hcv hk;go_enter func40,ntmps40;go_wp2
 go_loopw [10] (fun iv wr=>Below w.heap.size w wr/\∃j:Nat,j<=N/\iv=.int .i64 j/\Hid (∀i (h:i<l.length),i<j->Bi l[i] M=true)) (fun iv _=>N-(intOf iv).toNat)
 case atStart=>exact⟨C9 w,0,Nat.zero_le _,rfl,fun i h hi=>absurd hi (Nat.not_lt_zero _)⟩
 case round=>
  obtain⟨hb,j,hj,rfl,hp⟩:=hrel;by_cases hlt:j<N
  ·have hll:j<l.length:=by rw[HN.out];exact hlt
   obtain⟨b,o,rfl,hx⟩:=HR.out.at hll;have hx':=hx.below hb;have x0:=hx'.at 0 rfl;have x1:=hx'.at 1 rfl;have x2:=hx'.at 2 rfl;have x3:=hx'.at 3 rfl;have x4:=hx'.at 4 rfl;rw[Nat.add_zero]at x0;have z0:=kc hb c0;have hC2:=Ab z0;have hb2:=Ab x0;simp only at hC2 hb2;have n1:C≠wr.heap.size:=oM;have n2:b≠wr.heap.size:=oM;have i1:(0:Int)<=(j:Int):=oM;have i2:(j:Int)<(N:Int):=oM;have KN:=Eh l[j].ty p0 M q0 HB0;have KB:=IJ l[j] (HSB.out _ (List.getElem_mem hll)).1 (HSB.out _ (List.getElem_mem hll)).2;have NX:Hid (Bi l[j] M=true->∀i (h:i<l.length),i<j+1->Bi l[i] M=true):=fun hq i h hi=>by
    exact Pp
   have NB:Hid (Bi l[j] M=false->(l.all fun t=>Bi t M)=false):=fun h=>List.all_eq_false.2 ⟨l[j],List.getElem_mem hll,by rw[h];decide⟩;obtain⟨T,hT⟩:∃T,l[j]=T:=⟨_,rfl⟩
   rw[hT]at x0 x1 x2 x3 x4 KN KB NX NB;have hsm:Bi T M=(AE T.ty M&&ET T):=rfl;rw[hsm]at NX NB;obtain⟨X,hX⟩:∃X,AE T.ty M=X:=⟨_,rfl⟩
   obtain⟨Y,hY⟩:∃Y,ET T=Y:=⟨_,rfl⟩
   rw[hX,hY]at NX NB;simp only[hX]at KN;simp only[hY]at KB;obtain⟨⟨K,P⟩,Q,B,I⟩:=T;unfold CP at KN;unfold LQ at KB;simp only at x0 x1 x2 x3 x4 KN KB;have HK:Hid (∀w,Calls prog 56 #[.agg #[.int .i64 K,.int .i64 P],.slice p0 M q0] w fun e w'=>e=.returned (.bool X)/\Below w.heap.size w w'):=KN;have HBW:Hid (∀w,Calls prog 57 #[.agg #[.int .i64 K,.int .i64 P,.bool Q,.int .u32 B,.int .i64 I]] w fun e w'=>e=.returned (.bool Y)/\Below w.heap.size w w'):=KB;have HC:Hid (∀v,Below (wr.alloc (.cells #[.int .i64 K,.int .i64 P,.bool Q,.int .u32 B,.int .i64 I] 55)).heap.size (wr.alloc (.cells #[.int .i64 K,.int .i64 P,.bool Q,.int .u32 B,.int .i64 I] 55)) v->v.cell? ⟨C,0,none⟩=some (.slice p0 M q0)/\v.cell? ⟨wr.heap.size,0,none⟩=some (.int .i64 K)/\v.cell? ⟨wr.heap.size,1,none⟩=some (.int .i64 P)/\v.cell? ⟨wr.heap.size,2,none⟩=some (.bool Q)/\v.cell? ⟨wr.heap.size,3,none⟩=some (.int .u32 B)/\v.cell? ⟨wr.heap.size,4,none⟩=some (.int .i64 I)):=
    fun v hv=>⟨kc hv (kc (A0 _ _) z0),kc hv sG,kc hv sG,kc hv sG,kc hv sG,kc hv sG⟩
   have f1:=(HC.out _ (C9 _)).1;clear KN KB hT hX hY hp hx hx' hsm;cases X
   ·go_wp2;refine rG (fun v=>v.cell? ⟨C,0,none⟩=some (.slice p0 M q0)/\v.cell? ⟨wr.heap.size,0,none⟩=some (.int .i64 K)/\v.cell? ⟨wr.heap.size,1,none⟩=some (.int .i64 P)/\v.cell? ⟨wr.heap.size,2,none⟩=some (.bool Q)/\v.cell? ⟨wr.heap.size,3,none⟩=some (.int .u32 B)/\v.cell? ⟨wr.heap.size,4,none⟩=some (.int .i64 I)) fun hHeld=>?_;refine Tf 0 1 2 3 4 5 ?_;clear hHeld;refine Ax 6 fun K hK=>?_;go_simp;(go_at_call 56;refine(HK.out _).mono ?_;rintro e w1 ⟨rfl,hb1⟩;have HB1:=bel (Ae _) hb1;obtain⟨y0,y1,y2,y3,y4,y5⟩:=HC.out w1 HB1);try(go_wp2_with fail)
    refine Aw hK fun hHeld=>?_;clear hK K;refine Tb 7 8 ?_;refine CD 9 ?_;refine CD 10 ?_;refine CD 11 ?_;refine Bw 12 ?_;refine wpAnyH_done kR ?_ _;go_wp2;go_ret;exact⟨A8 (NB.out sM).symm,bel hb (bel (A0 _ _) HB1)⟩
   ·cases Y
    ·go_wp2;refine rG (fun v=>v.cell? ⟨C,0,none⟩=some (.slice p0 M q0)/\v.cell? ⟨wr.heap.size,0,none⟩=some (.int .i64 K)/\v.cell? ⟨wr.heap.size,1,none⟩=some (.int .i64 P)/\v.cell? ⟨wr.heap.size,2,none⟩=some (.bool Q)/\v.cell? ⟨wr.heap.size,3,none⟩=some (.int .u32 B)/\v.cell? ⟨wr.heap.size,4,none⟩=some (.int .i64 I)) fun hHeld=>?_;refine Tf 0 1 2 3 4 5 ?_;clear hHeld;refine Ax 6 fun K hK=>?_;go_simp;(go_at_call 56;refine(HK.out _).mono ?_;rintro e w1 ⟨rfl,hb1⟩;have HB1:=bel (Ae _) hb1;obtain⟨y0,y1,y2,y3,y4,y5⟩:=HC.out w1 HB1);try(go_wp2_with fail)
     refine Aw hK fun hHeld=>?_;clear hK K;refine Tc 7 8 9 ?_;clear hHeld;refine Ax 10 fun K hK=>?_;go_simp;(go_at_call 57;refine(HBW.out _).mono ?_;rintro e w2 ⟨rfl,hb2⟩;have HB2:=bel HB1 hb2;obtain⟨y0,y1,y2,y3,y4,y5⟩:=HC.out w2 HB2);try(go_wp2_with fail)
     refine Aw hK fun hHeld=>?_;clear hK K;refine Tb 11 12 ?_;refine wpAnyH_done kR ?_ _;go_wp2;go_ret;exact⟨A8 (NB.out sM).symm,bel hb (bel (A0 _ _) HB2)⟩
    ·go_wp2;refine rG (fun v=>v.cell? ⟨C,0,none⟩=some (.slice p0 M q0)/\v.cell? ⟨wr.heap.size,0,none⟩=some (.int .i64 K)/\v.cell? ⟨wr.heap.size,1,none⟩=some (.int .i64 P)/\v.cell? ⟨wr.heap.size,2,none⟩=some (.bool Q)/\v.cell? ⟨wr.heap.size,3,none⟩=some (.int .u32 B)/\v.cell? ⟨wr.heap.size,4,none⟩=some (.int .i64 I)) fun hHeld=>?_;refine Tf 0 1 2 3 4 5 ?_;clear hHeld;refine Ax 6 fun K hK=>?_;go_simp;(go_at_call 56;refine(HK.out _).mono ?_;rintro e w1 ⟨rfl,hb1⟩;have HB1:=bel (Ae _) hb1;obtain⟨y0,y1,y2,y3,y4,y5⟩:=HC.out w1 HB1);try(go_wp2_with fail)
     refine Aw hK fun hHeld=>?_;clear hK K;refine Tc 7 8 9 ?_;clear hHeld;refine Ax 10 fun K hK=>?_;go_simp;(go_at_call 57;refine(HBW.out _).mono ?_;rintro e w2 ⟨rfl,hb2⟩;have HB2:=bel HB1 hb2;obtain⟨y0,y1,y2,y3,y4,y5⟩:=HC.out w2 HB2);try(go_wp2_with fail)
     refine Aw hK fun hHeld=>?_;clear hK K;refine Tb 11 12 ?_;refine wpAnyH_done kR ?_ _;go_wp2;go_roundw
     case rel=>exact⟨bel hb (bel (A0 _ _) HB2),j+1,oM,gN,NX.out sM⟩
     case measure=>simp[intOf];omega
  ·have:j=N:=oM;subst this;have HF:Hid ((l.all fun t=>Bi t M)=true):=List.all_eq_true.2 fun t ht=>by
    obtain⟨i,hi,rfl⟩:=List.mem_iff_getElem.1 ht;exact QH
   clear hp;go_wp2;go_ret;exact⟨A8 HF.out.symm,hb⟩
theorem FJ(C:Nat)(v0 v1 v2 v3:Value)(c:Cd)(hk:Ba c)(w:World)(hc:BC w C v0 v1 v2 v3 c):
 Calls prog 24 #[.pointer (some ⟨C,0,none⟩)] w fun e w'=>e=.returned (.int .i64 (BR c))/\Below w.heap.size w w':=by
 have K1:=Jr v0 c.sign hk.signL hk.names w hc.2.sign.rd;have K2:=fun w h=>Gf C v0 v1 v2 v3 c hk w h;have K3:=fun w h=>Ga C v0 v1 v2 v3 c hk w h;unfold BR;obtain⟨E,hE⟩:∃E,AU c.sign=E:=⟨_,rfl⟩
 obtain⟨X,hX⟩:∃X,Ap c=X:=⟨_,rfl⟩
 obtain⟨Y,hY⟩:∃Y,Bn c=Y:=⟨_,rfl⟩
 simp only[hE]at K1 ⊢;simp only[hX]at K2 ⊢;simp only[hY]at K3 ⊢;have HC0:Hid (BC w C v0 v1 v2 v3 c):=hc;obtain⟨hcc,hcv⟩:=hc;have b1:=hk.regsL;have b2:=hk.slotsL;have b3:=hk.listL;obtain⟨p1,q1,rfl,r1⟩:=hcv.regs;obtain⟨p2,q2,rfl,r2⟩:=hcv.slots;obtain⟨p3,q3,rfl,r3⟩:=hcv.list;have c0:=hcc.at 0 rfl;have c1:=hcc.at 1 rfl;have c2:=hcc.at 2 rfl;have c3:=hcc.at 3 rfl;rw[Nat.zero_add]at c0 c1 c2 c3;obtain⟨N1,h1⟩:∃N,c.regs.length=N:=⟨_,rfl⟩
 obtain⟨N2,h2⟩:∃N,c.slots.length=N:=⟨_,rfl⟩
 obtain⟨N3,h3⟩:∃N,c.list.length=N:=⟨_,rfl⟩
 rw[h1]at K2 K3 c1 b1 HC0 ⊢;rw[h2]at K2 K3 c2 b2 HC0 ⊢;rw[h3]at K2 K3 c3 b3 HC0 ⊢;have HK1:Hid (Calls prog 38 #[v0] w fun e w'=>e=.returned (.int .i64 E)/\Below w.heap.size w w'):=K1;have HK2:Hid (∀w,BC w C v0 (.slice p1 N1 q1) (.slice p2 N2 q2) (.slice p3 N3 q3) c->Calls prog 39 #[.pointer (some ⟨C,0,none⟩)] w fun e w'=>e=.returned (.bool X)/\Below w.heap.size w w'):=K2;have HK3:Hid (∀w,BC w C v0 (.slice p1 N1 q1) (.slice p2 N2 q2) (.slice p3 N3 q3) c->Calls prog 40 #[.pointer (some ⟨C,0,none⟩)] w fun e w'=>e=.returned (.bool Y)/\Below w.heap.size w w'):=K3;have HC:Hid (∀v,Below w.heap.size w v->v.cell? ⟨C,1,none⟩=some (.slice p1 N1 q1)/\v.cell? ⟨C,2,none⟩=some (.slice p2 N2 q2)/\v.cell? ⟨C,3,none⟩=some (.slice p3 N3 q3)):=fun v hv=>⟨kc hv c1,kc hv c2,kc hv c3⟩
 clear K1 K2 K3 hE hX hY h1 h2 h3 r1 r2 r3 hcc hcv hk;by_cases hE:E=0
 ·subst hE;rw[if_neg sM];by_cases s1:16384<N1\/32768<N3
  ·rw[if_pos s1];by_cases s2:16384<N1
   ·have s2':(16384:Int)<(N1:Int):=oM;clear s1 s2;exact R0
   ·have s2':¬ (16384:Int)<(N1:Int):=oM;have s3':(32768:Int)<(N3:Int):=oM;clear s1 s2;exact R0
  ·rw[if_neg s1];have s2':¬ (16384:Int)<(N1:Int):=oM;have s3':¬ (32768:Int)<(N3:Int):=oM;clear s1;by_cases s4:4096<N2
   ·rw[if_pos s4];have s4':(4096:Int)<(N2:Int):=oM;clear s4;exact R0
   ·rw[if_neg s4];have s4':¬ (4096:Int)<(N2:Int):=oM;clear s4;cases X
    ·go_enter func24,ntmps24;go_wp2_with(first
      |(go_at_call 38;refine HK1.out.mono ?_;rintro e w1 ⟨rfl,hb1⟩;obtain⟨d1,d2,d3⟩:=HC.out w1 hb1)
      |(go_at_call 39;refine(HK2.out _ (HC0.out.below hb1)).mono ?_;rintro e w2 ⟨rfl,hb2⟩;have HB2:=bel hb1 hb2)
      |(go_at_call 40;refine(HK3.out _ (HC0.out.below HB2)).mono ?_;rintro e w3 ⟨rfl,hb3⟩;have HB3:=bel HB2 hb3))
     all_goals(go_ret;exact⟨rfl,HB2⟩)
    ·cases Y
     ·exact S6
     ·exact S6
 ·rw[if_pos hE];have hE':(E==0)=false:=by simpa using hE
  go_enter func24,ntmps24;go_wp2_with(go_at_call 38;refine HK1.out.mono ?_;rintro e w1 ⟨rfl,hb1⟩)
  all_goals(go_ret;exact⟨rfl,hb1⟩)
end Go.Proofs.Ytnbccaicijcklaa
