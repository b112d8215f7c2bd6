import Derived.Test.YtbinohkcolcbfaaGreatPart6
import Derived.Test.YtbinohkcolcbfaaGreatPart1
import Derived.Test.YtbinohkcolcbfaaGreatPart2
import Derived.Test.YtbinohkcolcbfaaGreatPart5
set_option maxRecDepth 100000
set_option maxHeartbeats 16000000
namespace Go.Proofs.YtbinohkcolcbfaaGreat
open Go.RowKit Go.Maps Go.WideMaps Go.Proofs.Tryz
set_option linter.unusedVariables false
set_option linter.unusedSimpArgs false
def keyL(s:ByteArray):Lit:=.string s.data.toList
theorem Zacv{a b:ByteArray}(h:keyL a=keyL b):a=b:=by
 unfold keyL at h;injection h with h;exact bs_inj h
theorem Zof(s:ByteArray):∀ (l:List Par) (p:Par),Zis s (l++[p])=match Zis s l with |some i=>some i|none=>if p.name=s then some l.length else none
 |[],p=>by simp[Zis]
 |q::l,p=>by
  rw[List.cons_append];simp only[Zis];by_cases h:q.name=s
  ·rw[if_pos h,if_pos h]
  ·rw[if_neg h,if_neg h,Zof s l p];cases Zis s l with
   |some i=>rfl
   |none=>
    simp only[Option.map_none];split
    ·rfl
    ·rfl
theorem Zabu(s:ByteArray):∀ (l:List Par),(Zis s l).isSome=l.any fun q=>decide (q.name=s)
 |[]=>rfl
 |q::l=>by
  simp only[Zis,List.any_cons];by_cases h:q.name=s
  ·rw[if_pos h];simp[h]
  ·rw[if_neg h,Option.isSome_map,Zabu s l];simp[h]
theorem Zpr:∀ (l:List Par) (p:Par),Zjs (l++[p])=(Zjs l||(Zis p.name l).isSome)
 |[],p=>rfl
 |q::l,p=>by
  rw[List.cons_append];simp only[Zjs,List.any_append,List.any_cons,List.any_nil,Zpr l p,Zabu];have e:decide (p.name=q.name)=decide (q.name=p.name):=by rw[decide_eq_decide];exact eq_comm
  rw[e];cases(l.any fun r=>decide (r.name=q.name))<;>cases(Zjs l)<;>cases(decide (q.name=p.name))<;>cases(l.any fun r=>decide (r.name=p.name))<;>rfl
structure Zni(l:List Par)(D:DataW Unit):Prop where
 has:∀s,Maps.has D (keyL s)=(Zis s l).isSome
 val:∀s i z,Zis s l=some i->D.atKey (keyL s) z=.lit (.int .i64 (i:Int))
 no:Zjs l=false->Maps.size D=l.length
 yes:Zjs l=true->Maps.size D<l.length
theorem Zahs:Zni [] (.map []):=⟨fun _=>rfl,fun s i z h=>by simp[Zis]at h,fun _=>rfl,fun h=>by simp[Zjs]at h⟩
theorem Zaic{l:List Par}{D:DataW Unit}(h:Zni l D){p:Par}(hh:Maps.has D (keyL p.name)=true):Zni (l++[p]) D:=by
 have hp:(Zis p.name l).isSome=true:=by rw[←h.has];exact hh
 have hf:∀s,Zis s (l++[p])=Zis s l:=fun s=>by
  rw[Zof];cases e:Zis s l with
  |some i=>rfl
  |none=>
   simp only;rw[if_neg];rintro rfl;rw[e]at hp;exact absurd hp dE
 have hle:Maps.size D<=l.length:=by
  cases e:Zjs l
  ·exact Nat.le_of_eq (h.no e)
  ·exact Nat.le_of_lt (h.yes e)
 refine⟨fun s=>by rw[hf];exact h.has s,fun s i z e=>h.val s i z (by rw[←hf];exact e),fun e=>?_,fun e=>?_⟩
 ·rw[Zpr,hp,Bool.or_true]at e;exact absurd e dE
 ·simp only[List.length_append,List.length_cons,List.length_nil];omega
theorem Zagj{l:List Par}{D:DataW Unit}(h:Zni l D)(ht:Tidy D){p:Par}(hh:Maps.has D (keyL p.name)=false):Zni (l++[p]) (D.put (keyL p.name) (.lit (.int .i64 (l.length:Int)))):=by
 have hp:(Zis p.name l).isSome=false:=by rw[←h.has];exact hh
 have hpn:Zis p.name l=none:=by simpa using hp
 have hsz:Maps.size (D.put (keyL p.name) (.lit (.int .i64 (l.length:Int))))=Maps.size D+1:=by rw[size_put ht,hh];rfl
 refine⟨fun s=>?_,fun s i z e=>?_,fun e=>?_,fun e=>?_⟩
 ·by_cases hs:s=p.name
  ·subst hs;rw[has_put_same ht.isMap (show WideAt.IsKeyLit (keyL p.name)from trivial),Zof,hpn];simp
  ·rw[has_put_other (fun e=>hs (Zacv e)),h.has,Zof];cases e:Zis s l with
   |some i=>rfl
   |none=>simp only;rw[if_neg (fun e=>hs e.symm)]
 ·by_cases hs:s=p.name
  ·subst hs;rw[Zof,hpn]at e;simp at e;subst e;exact atKey_put_same ht.isMap (show WideAt.IsKeyLit (keyL p.name)from trivial) _ _
  ·rw[atKey_put_other (fun e=>hs (Zacv e))];refine h.val s i z ?_;rw[Zof]at e;cases e2:Zis s l with
   |some j=>rw[e2]at e;exact e
   |none=>rw[e2]at e;simp only at e;rw[if_neg (fun e=>hs e.symm)]at e;exact absurd e sM
 ·rw[Zpr,hp,Bool.or_false]at e;rw[hsz,h.no e];simp
 ·rw[Zpr,hp,Bool.or_false]at e;have:=h.yes e;rw[hsz];simp only[List.length_append,List.length_cons,List.length_nil];omega
theorem lawK:Keyed prog 9:=string_keyed underlying9
theorem zeroI(w:World):(zeroValue 3).run prog w=.ok (.int .i64 0) w:=kR
def Zog(w:World)(b n:Nat)(D:DataW Unit):Prop:=w.ownsMap prog 9 (plainElem prog 3) b n D
theorem Zog.below{w w':World}{b n:Nat}{D:DataW Unit}(h:Zog w b n D)(k:Below w.heap.size w w'):Zog w' b n D:=
 World.ownsMap.kept h (row:=none) ⟨k.os,k.tape,k.output,k.size,fun j hj _=>k.block j hj⟩ sM
theorem Zagm(v:Value)(l:List Par)(hl:l.length<=140737488351232)(hM:∀p∈l,p.name.size<=140737488351232)(w:World)(hr:Rd w v l):
 Calls prog 88 #[v] w fun e w'=>∃D,e=.returned (.map (some w.heap.size))/\Zog w' w.heap.size l.length D/\Zni l D/\Below w.heap.size w w':=by
 obtain⟨p,c,rfl,hr⟩:=hr;obtain⟨n,hn⟩:∃n,l.length=n:=⟨_,rfl⟩
 rw[hn]at hl ⊢;have HN:Hid (l.length=n):=hn;have HR:Hid (Row w p l):=hr;have HM:Hid (∀p∈l,p.name.size<=140737488351232):=hM;clear hn hr hM;have hmm:=@run_makeMap prog;go_enter func88,ntmps88;go_wp2
 go_loopw [11] (fun iv wr=>Below w.heap.size w wr/\∃j:Nat,j<=n/\iv=.int .i64 j/\∃D,Hid (Zog wr w.heap.size j D/\Zni (l.take j) D)) (fun iv _=>n-(intOf iv).toNat)
 case atStart=>exact⟨Zhq _ _,0,Nat.zero_le _,rfl,.map [],World.ownsMap_made _ _ _ _,Zahs⟩
 case round=>
  obtain⟨hb,j,hj,rfl,D,hD⟩:=hrel;by_cases hlt:j<n
  ·have hll:j<l.length:=by rw[HN.out];exact hlt
   obtain⟨b,o,rfl,hx⟩:=HR.out.at hll;obtain⟨x0,x1,x2⟩:=hx.below hb;have i1:(0:Int)<=(j:Int):=oM;have i2:(j:Int)<(n:Int):=oM;have hkey:keyOf prog 9 (.string l[j].name)=some (keyL l[j].name):=keyOf_string_mk underlying9 (by have:=HM.out _ (List.getElem_mem hll);unfold maxLen;omega);have HT:Hid (l.take (j+1)=l.take j++[l[j]]/\(l.take j).length=j):=⟨Ztj hll,by rw[List.length_take];omega⟩
   have hwf:(Lit.int .i64 (j:Int)).wf=true:=WalkArith.wf_i64 oM;have hown:Hid (Zog (wr.alloc (.cells #[.string l[j].name,.int .i64 l[j].kind,.int .i64 l[j].len] 66)) w.heap.size j D):=hD.out.1.below (Zhq _ _);have HF:Hid (Zni (l.take j) D):=hD.out.2;clear hD hx;cases hsn:Maps.has D (keyL l[j].name)
   ·have HS:Hid (Maps.has D (keyL l[j].name)=false):=hsn;have tok:True:=trivial;clear hsn;go_wp2_with(first
     |(at_lookup;have _t:=tok;refine wpList_lookup_own_ok_int _ rfl _ _ 166 rfl 9 3 .i64 lawK underlying166 underlying3 (zeroI _) w.heap.size j D rfl hown.out _ _ rfl hkey ?_;intro c hat hwc;rw[HS.out];clear hat hwc tok)
     |(at_mapUpdate;refine wpList_mapUpdate_own _ rfl _ _ _ 166 rfl 9 3 lawK underlying166 _ w.heap.size j D rfl hown.out mL _ _ _ rfl rfl hkey _ [] (plainElem_int underlying3 hwf) ?_;intro w1 hown1 hgrow1;have H1:Hid (Zog w1 w.heap.size (j+1) (D.put (keyL l[j].name) (.lit (.int .i64 (j:Int))))/\World.grownBy _ w1 (some w.heap.size)):=⟨hown1,hgrow1⟩;clear hown1 hgrow1))
    go_roundw
    case rel=>
     refine⟨?_,j+1,oM,gN,_,H1.out.1,?_⟩
     ·exact Below.grown (bel hb (Zhq _ _)) H1.out.2 (by have:=hb.size;simp;omega) (fun k e=>by cases e;exact Nat.le_refl _)
     ·rw[HT.out.1];have:=Zagj HF.out (World.ownsMap.tidy hown.out lawK) HS.out;rw[HT.out.2]at this;exact this
    case measure=>simp[intOf];omega
   ·have HS:Hid (Maps.has D (keyL l[j].name)=true):=hsn;clear hsn;go_wp2_with(at_lookup;refine wpList_lookup_own_ok_int _ rfl _ _ 166 rfl 9 3 .i64 lawK underlying166 underlying3 (zeroI _) w.heap.size j D rfl hown.out _ _ rfl hkey ?_;intro c hat hwc;rw[HS.out];clear hat hwc);go_roundw
    case rel=>
     refine⟨bel hb (Zhq _ _),j+1,oM,gN,D,World.ownsMap.mono hown.out (Nat.le_succ _),?_⟩;rw[HT.out.1];exact Zaic HF.out HS.out
    case measure=>simp[intOf];omega
  ·have:j=n:=oM;subst this;have HF:Hid (Zog wr w.heap.size j D/\Zni l D):=⟨hD.out.1,by have:=hD.out.2;rw[List.take_of_length_le (by rw[HN.out];exact Nat.le_refl _)]at this;exact this⟩
   clear hD;go_wp2;go_ret;exact⟨D,rfl,HF.out.1,HF.out.2,hb⟩
end Go.Proofs.YtbinohkcolcbfaaGreat
set_option maxRecDepth 100000
set_option maxHeartbeats 16000000
namespace Go.Proofs.YtbinohkcolcbfaaGreat
open Go.RowKit Go.Maps Go.WideMaps Go.Proofs.Tryz
set_option linter.unusedVariables false
set_option linter.unusedSimpArgs false
theorem Zahn(v:Value)(l:List Par)(hl:l.length<=140737488351232)(hM:∀p∈l,p.name.size<=140737488351232)(w:World)(hr:Rd w v l):
 Calls prog 50 #[v] w fun e w'=>e=.returned (.int .i64 (Ziz l))/\Below w.heap.size w w':=by
 have K1:=Zabm v l hl hM w hr;have K2:=fun w h=>Zagm v l hl hM w h;have K3:=fun w h=>Zagr v l hl hM w h;have HR:Hid (Rd w v l):=hr;have htb:=Zsn l;unfold Ziz;obtain⟨p,c,rfl,_⟩:=hr;obtain⟨n,hn⟩:∃n,l.length=n:=⟨_,rfl⟩
 obtain⟨N,hN⟩:∃N,l.all mayP=N:=⟨_,rfl⟩
 obtain⟨T,hT⟩:∃T,totP l=T:=⟨_,rfl⟩
 rw[hn]at K1 K2 K3 HR hl htb ⊢;rw[hN]at K1 ⊢;rw[hT]at htb ⊢;simp only[hT]at K3;have HK1:Hid (Calls prog 87 #[.slice p n c,.func (.func 69) #[] #[]] w fun e w'=>e=.returned (.bool (!N))/\Below w.heap.size w w'):=K1;have HK2:Hid (∀w,Rd w (.slice p n c) l->Calls prog 88 #[.slice p n c] w fun e w'=>∃D,e=.returned (.map (some w.heap.size))/\Zog w' w.heap.size n D/\Zni l D/\Below w.heap.size w w'):=K2;have HK3:Hid (∀w,Rd w (.slice p n c) l->Calls prog 89 #[.slice p n c] w fun e w'=>e=.returned (.int .i64 T)/\Below w.heap.size w w'):=K3;have HN:Hid (l.length=n):=hn;clear K1 K2 K3 hN hT hM hn;by_cases h64:n>64
 ·have h64':(64:Int)<(n:Int):=oM;rw[if_pos h64];clear h64;go_enter func50,ntmps50;go_wp2
  all_goals(go_ret;exact⟨rfl,bel0 w⟩)
 ·have h64':¬ (64:Int)<(n:Int):=oM;rw[if_neg h64];clear h64;cases N
  ·rw[if_pos rfl];go_enter func50,ntmps50;go_wp2_with(go_at_call 87;refine HK1.out.mono ?_;rintro e w1 ⟨rfl,hb1⟩)
   all_goals(go_ret;exact⟨rfl,hb1⟩)
  ·rw[if_neg dE];cases htw:Zjs l
   ·rw[if_neg dE];have HW:Hid (Zjs l=false):=htw;clear htw;by_cases h3:T>65536
    ·rw[if_pos h3];have h3':(65536:Int)<T:=oM;exact Zbl
    ·rw[if_neg h3];have h3':¬ (65536:Int)<T:=oM;exact Zbl
   ·rw[if_pos rfl];have HW:Hid (Zjs l=true):=htw;clear htw;go_enter func50,ntmps50;go_wp2_with(first
     |(go_at_call 87;refine HK1.out.mono ?_;rintro e w1 ⟨rfl,hb1⟩)
     |(go_at_call 88;refine(HK2.out _ (HR.out.below hb1)).mono ?_;rintro e w2 ⟨D,rfl,hm,hf,hb2⟩;have HM1:Hid (Zog w2 w1.heap.size n D):=hm;have hs:Maps.size D<n:=(by have:=hf.yes HW.out;rw[HN.out]at this;exact this);have hs2:(Maps.size D:Int)<(n:Int):=oM;clear hm hf hs)
     |(have _t:=HM1;at_len;refine wpList_len_own _ rfl _ 166 rfl 9 3 underlying166 _ w1.heap.size n D rfl HM1.out ?_;clear HM1))
    all_goals(go_ret;exact⟨rfl,bel hb1 hb2⟩)
end Go.Proofs.YtbinohkcolcbfaaGreat
namespace Go.Proofs.YtbinohkcolcbfaaGreat
open Go.RowKit Go.Proofs.Tryz
set_option linter.unusedVariables false
set_option linter.unusedSimpArgs false
set_option maxRecDepth 100000
set_option maxHeartbeats 16000000
theorem Zxb(C:Nat)(v0 v1 v2 v3:Value)(c:Cd)(hk:CdOk c)(w:World)(hc:CdAt w C v0 v1 v2 v3 c):
 Calls prog 51 #[.pointer (some ⟨C,0,none⟩)] w fun e w'=>e=.returned (.bool (Zif c))/\Below w.heap.size w w':=by
 obtain⟨hcc,hcv⟩:=hc;have c0:=hcc.at 0 rfl;have c1:=hcc.at 1 rfl;rw[Nat.zero_add]at c0 c1;have hC:=Zhr c0;simp only at hC;have hr:=hcv.regs;obtain⟨p,q,rfl,hrr⟩:=hcv.regs;obtain⟨p0,q0,rfl,hrr0⟩:=hcv.sign;have HB:=hk.regsL;have HB0:=hk.signL;unfold Zif;obtain⟨M,hM⟩:∃M,c.sign.length=M:=⟨_,rfl⟩
 rw[hM]at c0 HB0 ⊢;obtain⟨l,hl⟩:∃l,c.regs=l:=⟨_,rfl⟩
 rw[hl]at c1 hr HB ⊢;obtain⟨N,hN⟩:∃N,l.length=N:=⟨_,rfl⟩
 have HN:Hid (l.length=N):=hN;rw[hN]at c1 hr HB;have HR:Hid (RowG 2 tyC w (.slice p N q) l):=hr;clear hl hM hN hr hrr hrr0 hcc hcv hk;go_enter func51,ntmps51;go_wp2
 go_loopw [10] (fun iv wr=>Below w.heap.size w wr/\∃j:Nat,j<=N/\iv=.int .i64 j/\Hid (∀i (h:i<l.length),i<j->Zil l[i] M=true)) (fun iv _=>N-(intOf iv).toNat)
 case atStart=>exact⟨bel0 w,0,Nat.zero_le _,rfl,fun i h hi=>absurd hi (Nat.not_lt_zero _)⟩
 case round=>
  obtain⟨hb,j,hj,rfl,hp⟩:=hrel;by_cases hlt:j<N
  ·have hll:j<l.length:=by rw[HN.out];exact hlt
   obtain⟨b,o,rfl,hx⟩:=HR.out.at hll;have hx':=hx.below hb;have x0:=hx'.at 0 rfl;have x1:=hx'.at 1 rfl;rw[Nat.add_zero]at x0;have z0:=kc hb c0;have hC2:=Zhr z0;have hb2:=Zhr x0;simp only at hC2 hb2;have n1:C≠wr.heap.size:=oM;have n2:b≠wr.heap.size:=oM;have i1:(0:Int)<=(j:Int):=oM;have i2:(j:Int)<(N:Int):=oM;have KN:=Ztb l[j] p0 M q0 HB0;have NX:Hid (Zil l[j] M=true->∀i (h:i<l.length),i<j+1->Zil l[i] M=true):=fun hq i h hi=>by
    exact Zct
   have NB:Hid (Zil l[j] M=false->(l.all fun t=>Zil t M)=false):=fun h=>List.all_eq_false.2 ⟨l[j],List.getElem_mem hll,by rw[h];decide⟩;obtain⟨T,hT⟩:∃T,l[j]=T:=⟨_,rfl⟩
   rw[hT]at x0 x1 KN NX NB;obtain⟨X,hX⟩:∃X,Zil T M=X:=⟨_,rfl⟩
   rw[hX]at NX NB;simp only[hX]at KN;obtain⟨K,P⟩:=T;unfold tyV at KN;simp only at x0 x1 KN;have HK:Hid (∀w,Calls prog 90 #[.agg #[.int .i64 K,.int .i64 P],.slice p0 M q0] w fun e w'=>e=.returned (.bool X)/\Below w.heap.size w w'):=KN;have HC:Hid (∀v,Below (wr.alloc (.cells #[.int .i64 K,.int .i64 P] 69)).heap.size (wr.alloc (.cells #[.int .i64 K,.int .i64 P] 69)) v->v.cell? ⟨C,0,none⟩=some (.slice p0 M q0)/\v.cell? ⟨wr.heap.size,0,none⟩=some (.int .i64 K)/\v.cell? ⟨wr.heap.size,1,none⟩=some (.int .i64 P)):=
    fun v hv=>⟨kc hv (kc (Zhq _ _) z0),kc hv sG,kc hv sG⟩
   have f1:=(HC.out _ (bel0 _)).1;clear KN hT hX hp hx hx';cases X
   ·go_wp2;refine rG (fun v=>v.cell? ⟨C,0,none⟩=some (.slice p0 M q0)/\v.cell? ⟨wr.heap.size,0,none⟩=some (.int .i64 K)/\v.cell? ⟨wr.heap.size,1,none⟩=some (.int .i64 P)) fun hHeld=>?_;refine Tc 0 1 2 ?_;refine Tb 3 4 ?_;clear hHeld;refine ry1 5 fun K hK=>?_;go_simp;(go_at_call 90;refine(HK.out _).mono ?_;rintro e w1 ⟨rfl,hb1⟩;have HB1:=bel (Zhs _) hb1;obtain⟨y0,y1,y2⟩:=HC.out w1 HB1);try(go_wp2_with fail)
    refine okK hK fun hHeld=>?_;clear hK K;refine tkT 6 ?_;refine wpAnyH_done kR ?_ _;go_wp2;go_ret;exact⟨Zhu (NB.out sM).symm,bel hb (bel (Zhq _ _) HB1)⟩
   ·go_wp2;refine rG (fun v=>v.cell? ⟨C,0,none⟩=some (.slice p0 M q0)/\v.cell? ⟨wr.heap.size,0,none⟩=some (.int .i64 K)/\v.cell? ⟨wr.heap.size,1,none⟩=some (.int .i64 P)) fun hHeld=>?_;refine Tc 0 1 2 ?_;refine Tb 3 4 ?_;clear hHeld;refine ry1 5 fun K hK=>?_;go_simp;(go_at_call 90;refine(HK.out _).mono ?_;rintro e w1 ⟨rfl,hb1⟩;have HB1:=bel (Zhs _) hb1;obtain⟨y0,y1,y2⟩:=HC.out w1 HB1);try(go_wp2_with fail)
    refine okK hK fun hHeld=>?_;clear hK K;refine tkT 6 ?_;refine wpAnyH_done kR ?_ _;go_wp2;go_roundw
    case rel=>exact⟨bel hb (bel (Zhq _ _) HB1),j+1,oM,gN,NX.out sM⟩
    case measure=>simp[intOf];omega
  ·have:j=N:=oM;subst this;have HF:Hid ((l.all fun t=>Zil t M)=true):=List.all_eq_true.2 fun t ht=>by
    obtain⟨i,hi,rfl⟩:=List.mem_iff_getElem.1 ht;exact Zex
   clear hp;go_wp2;go_ret;exact⟨Zhu HF.out.symm,hb⟩
theorem Zxi(C:Nat)(v0 v1 v2 v3:Value)(c:Cd)(hk:CdOk c)(w:World)(hc:CdAt w C v0 v1 v2 v3 c):
 Calls prog 52 #[.pointer (some ⟨C,0,none⟩)] w fun e w'=>e=.returned (.bool (Zkc c))/\Below w.heap.size w w':=by
 obtain⟨hcc,hcv⟩:=hc;have c0:=hcc.at 0 rfl;have c1:=hcc.at 2 rfl;rw[Nat.zero_add]at c0 c1;have hC:=Zhr c0;simp only at hC;have hr:=hcv.slots;obtain⟨p,q,rfl,hrr⟩:=hcv.slots;obtain⟨p0,q0,rfl,hrr0⟩:=hcv.sign;have HB:=hk.slotsL;have HB0:=hk.signL;have HSB:Hid (∀s∈c.slots,0<=s.bits/\s.bits<4294967296):=hk.sbits;unfold Zkc;obtain⟨M,hM⟩:∃M,c.sign.length=M:=⟨_,rfl⟩
 rw[hM]at c0 HB0 ⊢;obtain⟨l,hl⟩:∃l,c.slots=l:=⟨_,rfl⟩
 rw[hl]at c1 hr HB HSB ⊢;obtain⟨N,hN⟩:∃N,l.length=N:=⟨_,rfl⟩
 have HN:Hid (l.length=N):=hN;rw[hN]at c1 hr HB;have HR:Hid (RowG 5 slC w (.slice p N q) l):=hr;clear hl hM hN hr hrr hrr0 hcc hcv hk;go_enter func52,ntmps52;go_wp2
 go_loopw [10] (fun iv wr=>Below w.heap.size w wr/\∃j:Nat,j<=N/\iv=.int .i64 j/\Hid (∀i (h:i<l.length),i<j->Zjh l[i] M=true)) (fun iv _=>N-(intOf iv).toNat)
 case atStart=>exact⟨bel0 w,0,Nat.zero_le _,rfl,fun i h hi=>absurd hi (Nat.not_lt_zero _)⟩
 case round=>
  obtain⟨hb,j,hj,rfl,hp⟩:=hrel;by_cases hlt:j<N
  ·have hll:j<l.length:=by rw[HN.out];exact hlt
   obtain⟨b,o,rfl,hx⟩:=HR.out.at hll;have hx':=hx.below hb;have x0:=hx'.at 0 rfl;have x1:=hx'.at 1 rfl;have x2:=hx'.at 2 rfl;have x3:=hx'.at 3 rfl;have x4:=hx'.at 4 rfl;rw[Nat.add_zero]at x0;have z0:=kc hb c0;have hC2:=Zhr z0;have hb2:=Zhr x0;simp only at hC2 hb2;have n1:C≠wr.heap.size:=oM;have n2:b≠wr.heap.size:=oM;have i1:(0:Int)<=(j:Int):=oM;have i2:(j:Int)<(N:Int):=oM;have KN:=Ztb l[j].ty p0 M q0 HB0;have KB:=Zagu l[j] (HSB.out _ (List.getElem_mem hll)).1 (HSB.out _ (List.getElem_mem hll)).2;have NX:Hid (Zjh l[j] M=true->∀i (h:i<l.length),i<j+1->Zjh l[i] M=true):=fun hq i h hi=>by
    exact Zct
   have NB:Hid (Zjh l[j] M=false->(l.all fun t=>Zjh t M)=false):=fun h=>List.all_eq_false.2 ⟨l[j],List.getElem_mem hll,by rw[h];decide⟩;obtain⟨T,hT⟩:∃T,l[j]=T:=⟨_,rfl⟩
   rw[hT]at x0 x1 x2 x3 x4 KN KB NX NB;have hsm:Zjh T M=(Zil T.ty M&&Znk T):=rfl;rw[hsm]at NX NB;obtain⟨X,hX⟩:∃X,Zil T.ty M=X:=⟨_,rfl⟩
   obtain⟨Y,hY⟩:∃Y,Znk T=Y:=⟨_,rfl⟩
   rw[hX,hY]at NX NB;simp only[hX]at KN;simp only[hY]at KB;obtain⟨⟨K,P⟩,Q,B,I⟩:=T;unfold tyV at KN;unfold slV at KB;simp only at x0 x1 x2 x3 x4 KN KB;have HK:Hid (∀w,Calls prog 90 #[.agg #[.int .i64 K,.int .i64 P],.slice p0 M q0] w fun e w'=>e=.returned (.bool X)/\Below w.heap.size w w'):=KN;have HBW:Hid (∀w,Calls prog 91 #[.agg #[.int .i64 K,.int .i64 P,.bool Q,.int .u32 B,.int .i64 I]] w fun e w'=>e=.returned (.bool Y)/\Below w.heap.size w w'):=KB;have HC:Hid (∀v,Below (wr.alloc (.cells #[.int .i64 K,.int .i64 P,.bool Q,.int .u32 B,.int .i64 I] 72)).heap.size (wr.alloc (.cells #[.int .i64 K,.int .i64 P,.bool Q,.int .u32 B,.int .i64 I] 72)) v->v.cell? ⟨C,0,none⟩=some (.slice p0 M q0)/\v.cell? ⟨wr.heap.size,0,none⟩=some (.int .i64 K)/\v.cell? ⟨wr.heap.size,1,none⟩=some (.int .i64 P)/\v.cell? ⟨wr.heap.size,2,none⟩=some (.bool Q)/\v.cell? ⟨wr.heap.size,3,none⟩=some (.int .u32 B)/\v.cell? ⟨wr.heap.size,4,none⟩=some (.int .i64 I)):=
    fun v hv=>⟨kc hv (kc (Zhq _ _) z0),kc hv sG,kc hv sG,kc hv sG,kc hv sG,kc hv sG⟩
   have f1:=(HC.out _ (bel0 _)).1;clear KN KB hT hX hY hp hx hx' hsm;cases X
   ·go_wp2;refine rG (fun v=>v.cell? ⟨C,0,none⟩=some (.slice p0 M q0)/\v.cell? ⟨wr.heap.size,0,none⟩=some (.int .i64 K)/\v.cell? ⟨wr.heap.size,1,none⟩=some (.int .i64 P)/\v.cell? ⟨wr.heap.size,2,none⟩=some (.bool Q)/\v.cell? ⟨wr.heap.size,3,none⟩=some (.int .u32 B)/\v.cell? ⟨wr.heap.size,4,none⟩=some (.int .i64 I)) fun hHeld=>?_;refine Tf 0 1 2 3 4 5 ?_;clear hHeld;refine ry1 6 fun K hK=>?_;go_simp;(go_at_call 90;refine(HK.out _).mono ?_;rintro e w1 ⟨rfl,hb1⟩;have HB1:=bel (Zhs _) hb1;obtain⟨y0,y1,y2,y3,y4,y5⟩:=HC.out w1 HB1);try(go_wp2_with fail)
    refine okK hK fun hHeld=>?_;clear hK K;refine Tb 7 8 ?_;refine tkK 9 ?_;refine tkK 10 ?_;refine tkK 11 ?_;refine tkT 12 ?_;refine wpAnyH_done kR ?_ _;go_wp2;go_ret;exact⟨Zhu (NB.out sM).symm,bel hb (bel (Zhq _ _) HB1)⟩
   ·cases Y
    ·go_wp2;refine rG (fun v=>v.cell? ⟨C,0,none⟩=some (.slice p0 M q0)/\v.cell? ⟨wr.heap.size,0,none⟩=some (.int .i64 K)/\v.cell? ⟨wr.heap.size,1,none⟩=some (.int .i64 P)/\v.cell? ⟨wr.heap.size,2,none⟩=some (.bool Q)/\v.cell? ⟨wr.heap.size,3,none⟩=some (.int .u32 B)/\v.cell? ⟨wr.heap.size,4,none⟩=some (.int .i64 I)) fun hHeld=>?_;refine Tf 0 1 2 3 4 5 ?_;clear hHeld;refine ry1 6 fun K hK=>?_;go_simp;(go_at_call 90;refine(HK.out _).mono ?_;rintro e w1 ⟨rfl,hb1⟩;have HB1:=bel (Zhs _) hb1;obtain⟨y0,y1,y2,y3,y4,y5⟩:=HC.out w1 HB1);try(go_wp2_with fail)
     refine okK hK fun hHeld=>?_;clear hK K;refine Tc 7 8 9 ?_;clear hHeld;refine ry1 10 fun K hK=>?_;go_simp;(go_at_call 91;refine(HBW.out _).mono ?_;rintro e w2 ⟨rfl,hb2⟩;have HB2:=bel HB1 hb2;obtain⟨y0,y1,y2,y3,y4,y5⟩:=HC.out w2 HB2);try(go_wp2_with fail)
     refine okK hK fun hHeld=>?_;clear hK K;refine Tb 11 12 ?_;refine wpAnyH_done kR ?_ _;go_wp2;go_ret;exact⟨Zhu (NB.out sM).symm,bel hb (bel (Zhq _ _) HB2)⟩
    ·go_wp2;refine rG (fun v=>v.cell? ⟨C,0,none⟩=some (.slice p0 M q0)/\v.cell? ⟨wr.heap.size,0,none⟩=some (.int .i64 K)/\v.cell? ⟨wr.heap.size,1,none⟩=some (.int .i64 P)/\v.cell? ⟨wr.heap.size,2,none⟩=some (.bool Q)/\v.cell? ⟨wr.heap.size,3,none⟩=some (.int .u32 B)/\v.cell? ⟨wr.heap.size,4,none⟩=some (.int .i64 I)) fun hHeld=>?_;refine Tf 0 1 2 3 4 5 ?_;clear hHeld;refine ry1 6 fun K hK=>?_;go_simp;(go_at_call 90;refine(HK.out _).mono ?_;rintro e w1 ⟨rfl,hb1⟩;have HB1:=bel (Zhs _) hb1;obtain⟨y0,y1,y2,y3,y4,y5⟩:=HC.out w1 HB1);try(go_wp2_with fail)
     refine okK hK fun hHeld=>?_;clear hK K;refine Tc 7 8 9 ?_;clear hHeld;refine ry1 10 fun K hK=>?_;go_simp;(go_at_call 91;refine(HBW.out _).mono ?_;rintro e w2 ⟨rfl,hb2⟩;have HB2:=bel HB1 hb2;obtain⟨y0,y1,y2,y3,y4,y5⟩:=HC.out w2 HB2);try(go_wp2_with fail)
     refine okK hK fun hHeld=>?_;clear hK K;refine Tb 11 12 ?_;refine wpAnyH_done kR ?_ _;go_wp2;go_roundw
     case rel=>exact⟨bel hb (bel (Zhq _ _) HB2),j+1,oM,gN,NX.out sM⟩
     case measure=>simp[intOf];omega
  ·have:j=N:=oM;subst this;have HF:Hid ((l.all fun t=>Zjh t M)=true):=List.all_eq_true.2 fun t ht=>by
    obtain⟨i,hi,rfl⟩:=List.mem_iff_getElem.1 ht;exact Zex
   clear hp;go_wp2;go_ret;exact⟨Zhu HF.out.symm,hb⟩
theorem Zxh(C:Nat)(v0 v1 v2 v3:Value)(c:Cd)(hk:CdOk c)(w:World)(hc:CdAt w C v0 v1 v2 v3 c):
 Calls prog 31 #[.pointer (some ⟨C,0,none⟩)] w fun e w'=>e=.returned (.int .i64 (Zkw c))/\Below w.heap.size w w':=by
 have K1:=Zahn v0 c.sign hk.signL hk.names w hc.2.sign.rd;have K2:=fun w h=>Zxb C v0 v1 v2 v3 c hk w h;have K3:=fun w h=>Zxi C v0 v1 v2 v3 c hk w h;unfold Zkw;obtain⟨E,hE⟩:∃E,Ziz c.sign=E:=⟨_,rfl⟩
 obtain⟨X,hX⟩:∃X,Zif c=X:=⟨_,rfl⟩
 obtain⟨Y,hY⟩:∃Y,Zkc c=Y:=⟨_,rfl⟩
 simp only[hE]at K1 ⊢;simp only[hX]at K2 ⊢;simp only[hY]at K3 ⊢;have HC0:Hid (CdAt w C v0 v1 v2 v3 c):=hc;obtain⟨hcc,hcv⟩:=hc;have b1:=hk.regsL;have b2:=hk.slotsL;have b3:=hk.listL;obtain⟨p1,q1,rfl,r1⟩:=hcv.regs;obtain⟨p2,q2,rfl,r2⟩:=hcv.slots;obtain⟨p3,q3,rfl,r3⟩:=hcv.list;have c0:=hcc.at 0 rfl;have c1:=hcc.at 1 rfl;have c2:=hcc.at 2 rfl;have c3:=hcc.at 3 rfl;rw[Nat.zero_add]at c0 c1 c2 c3;obtain⟨N1,h1⟩:∃N,c.regs.length=N:=⟨_,rfl⟩
 obtain⟨N2,h2⟩:∃N,c.slots.length=N:=⟨_,rfl⟩
 obtain⟨N3,h3⟩:∃N,c.list.length=N:=⟨_,rfl⟩
 rw[h1]at K2 K3 c1 b1 HC0 ⊢;rw[h2]at K2 K3 c2 b2 HC0 ⊢;rw[h3]at K2 K3 c3 b3 HC0 ⊢;have HK1:Hid (Calls prog 50 #[v0] w fun e w'=>e=.returned (.int .i64 E)/\Below w.heap.size w w'):=K1;have HK2:Hid (∀w,CdAt w C v0 (.slice p1 N1 q1) (.slice p2 N2 q2) (.slice p3 N3 q3) c->Calls prog 51 #[.pointer (some ⟨C,0,none⟩)] w fun e w'=>e=.returned (.bool X)/\Below w.heap.size w w'):=K2;have HK3:Hid (∀w,CdAt w C v0 (.slice p1 N1 q1) (.slice p2 N2 q2) (.slice p3 N3 q3) c->Calls prog 52 #[.pointer (some ⟨C,0,none⟩)] w fun e w'=>e=.returned (.bool Y)/\Below w.heap.size w w'):=K3;have HC:Hid (∀v,Below w.heap.size w v->v.cell? ⟨C,1,none⟩=some (.slice p1 N1 q1)/\v.cell? ⟨C,2,none⟩=some (.slice p2 N2 q2)/\v.cell? ⟨C,3,none⟩=some (.slice p3 N3 q3)):=fun v hv=>⟨kc hv c1,kc hv c2,kc hv c3⟩
 clear K1 K2 K3 hE hX hY h1 h2 h3 r1 r2 r3 hcc hcv hk;by_cases hE:E=0
 ·subst hE;rw[if_neg sM];by_cases s1:16384<N1\/32768<N3
  ·rw[if_pos s1];by_cases s2:16384<N1
   ·have s2':(16384:Int)<(N1:Int):=oM;clear s1 s2;exact Zco
   ·have s2':¬ (16384:Int)<(N1:Int):=oM;have s3':(32768:Int)<(N3:Int):=oM;clear s1 s2;exact Zco
  ·rw[if_neg s1];have s2':¬ (16384:Int)<(N1:Int):=oM;have s3':¬ (32768:Int)<(N3:Int):=oM;clear s1;by_cases s4:4096<N2
   ·rw[if_pos s4];have s4':(4096:Int)<(N2:Int):=oM;clear s4;exact Zco
   ·rw[if_neg s4];have s4':¬ (4096:Int)<(N2:Int):=oM;clear s4;cases X
    ·go_enter func31,ntmps31;go_wp2_with(first
      |(go_at_call 50;refine HK1.out.mono ?_;rintro e w1 ⟨rfl,hb1⟩;obtain⟨d1,d2,d3⟩:=HC.out w1 hb1)
      |(go_at_call 51;refine(HK2.out _ (HC0.out.below hb1)).mono ?_;rintro e w2 ⟨rfl,hb2⟩;have HB2:=bel hb1 hb2)
      |(go_at_call 52;refine(HK3.out _ (HC0.out.below HB2)).mono ?_;rintro e w3 ⟨rfl,hb3⟩;have HB3:=bel HB2 hb3))
     all_goals(go_ret;exact⟨rfl,HB2⟩)
    ·cases Y
     ·exact Zci
     ·exact Zci
 ·rw[if_pos hE];have hE':(E==0)=false:=by simpa using hE
  go_enter func31,ntmps31;go_wp2_with(go_at_call 50;refine HK1.out.mono ?_;rintro e w1 ⟨rfl,hb1⟩)
  all_goals(go_ret;exact⟨rfl,hb1⟩)
theorem Zri:(prog.info? 4).map (fun i=>(i.zero,i.size,i.bytes))=some (some (.bool false),1,1):=kR
theorem make_B(m:Nat)(h:m<=70368744177664)(w:World):(Instr.makeSlice 100 (.int .i64 m) (.int .i64 m)).run prog w=.ok (.slice (some ⟨w.heap.size,0,none⟩) m m) (w.alloc (.cells (madeCells #[.bool false] m) 4)):=
 run_make_row' (P:=prog) 100 4 (.bool false) 1 underlying100 Zri rfl .i64 .i64 m oM oM w
theorem WS.start(w:World)(C n:Nat):WS w.heap.size (w.heap.size+1) C n w.heap.size (.slice none 0 0) (.slice none 0 0) ((w.alloc (.cells (madeCells #[.bool false] n) 4)).alloc (.cells #[.pointer (some ⟨C,0,none⟩),.slice (some ⟨w.heap.size,0,none⟩) n n,.slice none 0 0,.slice none 0 0] 103)) ⟨[],[]⟩:=by
 have h1:=(World.rowIs_made w (.bool false) n 4).alloc (.cells #[.pointer (some ⟨C,0,none⟩),.slice (some ⟨w.heap.size,0,none⟩) n n,.slice none 0 0,.slice none 0 0] 103);have h2:=World.rowIs_alloc (w.alloc (.cells (madeCells #[.bool false] n) 4)) #[.pointer (some ⟨C,0,none⟩),.slice (some ⟨w.heap.size,0,none⟩) n n,.slice none 0 0,.slice none 0 0] 103 (wkF C w.heap.size n (.slice none 0 0) (.slice none 0 0)) (fun i hi=>by
  have hi':i<4:=hi;obtain rfl|rfl|rfl|rfl:i=0\/i=1\/i=2\/i=3:=oM
  all_goals rfl)
 have hs:(w.alloc (.cells (madeCells #[.bool false] n) 4)).heap.size=w.heap.size+1:=sM;rw[hs]at h2;exact⟨h2,h1.congr fun j _=>by simp,World.ownsRow_nil _ _ _ 1,World.ownsRow_nil _ _ _ 3,oM,Nat.le_refl _,oM,by simp[Value.ownBlock],by simp[Value.ownBlock],by simp[Value.ownBlock],by simp[Value.ownBlock],by simp[Value.ownBlock]⟩
theorem Zzc(v0 v1 v2 v3:Value)(c:Cd)(hk:CdOk c)(w:World)(hv:CdV w v0 v1 v2 v3 c):
 Calls prog 15 #[.agg #[v0,v1,v2,v3]] w fun e w'=>e=.returned (.tuple #[.int .i64 (Zik c).1,.int .i64 (Zik c).2])/\Below w.heap.size w w':=by
 have hat:CdAt (w.alloc (.cells #[v0,v1,v2,v3] 27)) w.heap.size v0 v1 v2 v3 c:=by
  refine⟨fun j hj=>?_,hv.below (Zhq _ _)⟩;have hj':j<4:=hj;obtain rfl|rfl|rfl|rfl:j=0\/j=1\/j=2\/j=3:=oM
  all_goals simp[go_sem]
 have K1:=Zxh w.heap.size v0 v1 v2 v3 c hk _ hat;unfold Zik;obtain⟨A,hA⟩:∃A,Zkw c=A:=⟨_,rfl⟩
 rw[hA]at K1 ⊢;have HK1:Hid (Calls prog 31 #[.pointer (some ⟨w.heap.size,0,none⟩)] (w.alloc (.cells #[v0,v1,v2,v3] 27)) fun e w'=>e=.returned (.int .i64 A)/\Below (w.alloc (.cells #[v0,v1,v2,v3] 27)).heap.size (w.alloc (.cells #[v0,v1,v2,v3] 27)) w'):=K1;clear K1;by_cases h0:A=0
 ·rw[if_neg (by simp[h0])];have hsz:c.regs.length<=16384/\c.list.length<=32768/\Zif c=true:=by
   rw[h0]at hA;unfold Zkw at hA;split at hA
   ·rename_i e1;exact absurd hA e1
   ·split at hA
    ·exact absurd hA dE
    ·split at hA
     ·exact absurd hA dE
     ·split at hA
      ·rename_i e1 e2 e3 e4;simp only[Bool.and_eq_true]at e4;exact⟨oM,oM,e4.1⟩
      ·exact absurd hA dE
  obtain⟨hn,hN,htm⟩:=hsz;clear hA;subst h0;have KT:=fun E G gi vs vo s b o i w h ok hc hi hb hb0 hb1=>Zacc E G w.heap.size c.regs.length gi vs vo s v0 v1 v2 v3 c hk b o i w h rfl ok hn hc hi hb htm hb0 hb1;clear KT;have hr:=hv.list;obtain⟨p3,q3,rfl,hr3⟩:=hv.list;obtain⟨p1,q1,rfl,hr1⟩:=hv.regs;have HAT:Hid (CdAt (w.alloc (.cells #[v0,.slice p1 c.regs.length q1,v2,.slice p3 c.list.length q3] 27)) w.heap.size v0 (.slice p1 c.regs.length q1) v2 (.slice p3 c.list.length q3) c):=hat;obtain⟨Pr,hPr⟩:∃P,goP c ⟨[],[]⟩ 0 c.list=P:=⟨_,rfl⟩
  rw[hPr];have HP:Hid (goP c ⟨[],[]⟩ 0 c.list=Pr):=hPr;have HROW:Hid (RowG 7 inC w (.slice p3 c.list.length q3) c.list):=hr;have HIB:Hid (∀i∈c.list,0<=i.bits/\i.bits<4294967296):=hk.ibits;obtain⟨n,hnn⟩:∃n,c.regs.length=n:=⟨_,rfl⟩
  obtain⟨N,hNN⟩:∃N,c.list.length=N:=⟨_,rfl⟩
  have HNE:Hid (c.regs.length=n):=hnn;have HNL:Hid (c.list.length=N):=hNN;rw[hnn]at hn HK1 HAT;rw[hNN]at hN HK1 HAT HROW;rw[hnn,hNN];have mk:=fun w=>make_B n oM w;have HOKC:Hid (CdOk c):=hk;have HTM:Hid (Zif c=true):=htm;have f1:=HAT.out.1.at 1 rfl;have f3:=HAT.out.1.at 3 rfl;rw[Nat.zero_add]at f1 f3;have HC:Hid (∀v,Below (w.alloc (.cells #[v0,.slice p1 n q1,v2,.slice p3 N q3] 27)).heap.size (w.alloc (.cells #[v0,.slice p1 n q1,v2,.slice p3 N q3] 27)) v->v.cell? ⟨w.heap.size,1,none⟩=some (.slice p1 n q1)/\v.cell? ⟨w.heap.size,3,none⟩=some (.slice p3 N q3)):=fun v hv=>⟨kc hv f1,kc hv f3⟩
  clear hat hv hr hr3 hr1 hPr hnn hNN hk htm f1 f3;go_enter func15,ntmps15;go_wp2_with(go_at_call 31;refine HK1.out.mono ?_;rintro e w1 ⟨rfl,hb1⟩;obtain⟨g1,g3⟩:=HC.out w1 hb1;have g4:((w1.alloc (.cells (madeCells #[.bool false] n) 4)).alloc (.cells #[.pointer (some ⟨w.heap.size,0,none⟩),.slice (some ⟨w1.heap.size,0,none⟩) n n,.slice none 0 0,.slice none 0 0] 103)).cell? ⟨w.heap.size,3,none⟩=some (.slice p3 N q3):=kc (Zhq _ _) (kc (Zhq _ _) g3));have HB1:Hid (Below w.heap.size w w1):=bel (Zhq _ _) hb1;have HAT1:Hid (CdAt w1 w.heap.size v0 (.slice p1 n q1) v2 (.slice p3 N q3) c):=HAT.out.below hb1;have hs1:w.heap.size<w1.heap.size:=by have:=hb1.size;simp at this;omega
  have HS0:=WS.start w1 w.heap.size n;have HB0:Below w1.heap.size w1 ((w1.alloc (.cells (madeCells #[.bool false] n) 4)).alloc (.cells #[.pointer (some ⟨w.heap.size,0,none⟩),.slice (some ⟨w1.heap.size,0,none⟩) n n,.slice none 0 0,.slice none 0 0] 103)):=bel (Zhq _ _) (Zhq _ _);obtain⟨W2,hW2⟩:∃W2,(w1.alloc (.cells (madeCells #[.bool false] n) 4)).alloc (.cells #[.pointer (some ⟨w.heap.size,0,none⟩),.slice (some ⟨w1.heap.size,0,none⟩) n n,.slice none 0 0,.slice none 0 0] 103)=W2:=⟨_,rfl⟩
  rw[hW2]at HS0 HB0;try rw[hW2]
  clear HK1 HC hb1 mk HAT g4 hW2
  go_loopw [19] (fun iv wr=>∃ (j:Nat) (s:Wk) (vs vo:Value),j<=N/\iv=.int .i64 j/\Below w1.heap.size w1 wr/\WS w1.heap.size (w1.heap.size+1) w.heap.size n w1.heap.size vs vo wr s/\OkS n s/\Hid (goP c s j (c.list.drop j)=Pr)) (fun iv _=>N-(intOf iv).toNat)
  case atStart=>exact⟨0,⟨[],[]⟩,_,_,Nat.zero_le _,rfl,HB0,HS0,OkS.start n,by show _=_;rw[List.drop_zero];exact HP.out⟩
  case round=>
   obtain⟨j,s,vs,vo,hj,rfl,hb,hws,hok,hgo⟩:=hrel;have HWS:Hid (WS w1.heap.size (w1.heap.size+1) w.heap.size n w1.heap.size vs vo wr s):=hws;have HOK:Hid (OkS n s):=hok;have HBW:Hid (Below w1.heap.size w1 wr):=hb;have d3:=kc hb g3;have l3:=hws.c3;have hol:∃p q,vo=.slice p s.opens.length q:=Zjl hws.opn;have hnest:=hok.nest;clear HS0 HB0;by_cases hlt:j<N
   ·have hll:j<c.list.length:=by rw[HNL.out];exact hlt
    have hgo':=hgo.out;rw[List.drop_eq_getElem_cons hll]at hgo';have hgi:goP c s j (c.list[j]::c.list.drop (j+1))=if Zjb c s c.list[j]then goP c (Zib s c.list[j]) (j+1) (c.list.drop (j+1))else(160,(j:Int)):=rfl;rw[hgi]at hgo';obtain⟨b,o,rfl,hx⟩:=HROW.out.at hll;have hbw:b<w.heap.size:=Zhr (hx 0 (by simp[inC]));have hxw:=(hx.below HB1.out).below hb;have KT:=Zacc w1.heap.size (w1.heap.size+1) w.heap.size n w1.heap.size vs vo s v0 (.slice p1 n q1) v2 (.slice (some ⟨b,o,none⟩) N q3) c HOKC.out b (o+j*7) c.list[j] wr hws HNE.out hok hn (HAT1.out.below hb) hxw oM HTM.out (HIB.out _ (List.getElem_mem hll)).1 (HIB.out _ (List.getElem_mem hll)).2;have hokS:Zjb c s c.list[j]=true->OkS n (Zib s c.list[j]):=fun ht=>by
     have hq:OkS c.regs.length s:=by rw[HNE.out];exact hok
     have:=OkS.step hq ht;rw[HNE.out]at this;exact this
    obtain⟨X,hX⟩:∃X,Zjb c s c.list[j]=X:=⟨_,rfl⟩
    rw[hX]at hgo' hokS;simp only[hX]at KT;have HKT:Hid (Calls prog 32 #[.pointer (some ⟨w1.heap.size+1,0,none⟩),.pointer (some ⟨b,o+j*7,none⟩)] wr fun e w'=>e=.returned (.bool X)/\Below w1.heap.size wr w'/\(X=true->∃vs' vo',WS w1.heap.size (w1.heap.size+1) w.heap.size n w1.heap.size vs' vo' w' (Zib s c.list[j]))):=KT;have HGO:Hid ((if X=true then goP c (Zib s c.list[j]) (j+1) (c.list.drop (j+1))else(160,(j:Int)))=Pr):=hgo';have HOS:Hid (X=true->OkS n (Zib s c.list[j])):=hokS;have i1:(0:Int)<=(j:Int):=oM;have i2:(j:Int)<(N:Int):=oM;clear KT hgo hgo' hgi hokS hX hx hxw hws hok hb hol l3;cases X
    ·go_wp2_with(go_at_call 32;refine HKT.out.mono ?_;rintro e w5 ⟨rfl,hb5,hw5⟩;have HB5:Hid (Below w1.heap.size wr w5):=hb5;clear hb5 hw5)
     go_ret2
     refine⟨?_,bel HB1.out (HBW.out.trans HB5.out)⟩;have:=HGO.out;rw[if_neg dE]at this;rw[←this];rfl
    ·go_wp2_with(go_at_call 32;refine HKT.out.mono ?_;rintro e w5 ⟨rfl,hb5,hw5⟩;have HB5:Hid (Below w1.heap.size wr w5):=hb5;have HW5:Hid (∃vs' vo',WS w1.heap.size (w1.heap.size+1) w.heap.size n w1.heap.size vs' vo' w5 (Zib s c.list[j])):=hw5 fT;clear hb5 hw5);go_roundw
     case rel=>
      obtain⟨vs',vo',hw5⟩:=HW5.out;exact⟨j+1,_,vs',vo',oM,gN,HBW.out.trans HB5.out,hw5,HOS.out fT,by show _=_;have:=HGO.out;rw[if_pos fT]at this;exact this⟩
     case measure=>simp[intOf];omega
   ·have:j=N:=oM;subst this;have hgo':=hgo.out;rw[List.drop_of_length_le (by rw[HNL.out];exact Nat.le_refl _)]at hgo';have hgi:goP c s j []=if s.opens.isEmpty then(0,0)else(160,(j:Int)):=rfl;rw[hgi]at hgo';obtain⟨p,q,rfl⟩:=hol;obtain⟨M,hM⟩:∃M,s.opens.length=M:=⟨_,rfl⟩
    rw[hM]at l3 hnest;have hE:s.opens.isEmpty=decide (M=0):=by
     rw[←hM];cases s.opens with
     |nil=>rfl
     |cons a l=>simp
    rw[hE]at hgo';have HGO:Hid ((if decide (M=0)=true then((0:Int),(0:Int))else(160,(j:Int)))=Pr):=hgo';clear hgo hgo' hgi hE hM hws hok hb;by_cases hz:M=0
    ·subst hz;go_wp2
     go_ret2
     refine⟨?_,bel HB1.out HBW.out⟩;rw[←HGO.out];rfl
    ·have hz':(0:Int)<(M:Int):=oM;have hz2:0<M:=oM;have HZ:Hid (¬M=0):=hz;clear hz;go_wp2;refine rG (fun v=>v.cell? ⟨w.heap.size,3,none⟩=some (.slice p3 j q3)) fun hHeld=>?_;refine Tc 0 1 2 ?_;refine Tb 3 4 ?_;refine wpAnyH_done kR ?_ _;go_wp2
     go_ret2
     refine⟨?_,(bel HB1.out HBW.out).drew⟩;have:=HGO.out;rw[if_neg (by simpa using HZ.out)]at this;rw[←this];rfl
 ·rw[if_pos h0];have h0':(A==0)=false:=by simpa using h0
  go_enter func15,ntmps15;go_wp2_with(go_at_call 31;refine HK1.out.mono ?_;rintro e w1 ⟨rfl,hb1⟩)
  all_goals(go_ret2;exact⟨rfl,bel (Zhq _ _) hb1⟩)
def insV(i:Ins):Value:=.agg #[.int .i64 i.op,.int .i64 i.d,.int .i64 i.a,.int .i64 i.b,.int .i64 i.c,.int .i64 i.n,.int .u32 i.bits]
theorem Zamp{w v:World}{i:Ins}{t:TypeId}(k:Below (w.alloc (.cells #[.int .i64 i.op,.int .i64 i.d,.int .i64 i.a,.int .i64 i.b,.int .i64 i.c,.int .i64 i.n,.int .u32 i.bits] t)).heap.size (w.alloc (.cells #[.int .i64 i.op,.int .i64 i.d,.int .i64 i.a,.int .i64 i.b,.int .i64 i.c,.int .i64 i.n,.int .u32 i.bits] t)) v):Zhw v w.heap.size 0 (inC i):=by
 refine Zhw.below (fun j hj=>?_) k;have hj':j<7:=hj;obtain rfl|rfl|rfl|rfl|rfl|rfl|rfl:j=0\/j=1\/j=2\/j=3\/j=4\/j=5\/j=6:=oM
 all_goals simp[go_sem,inC]
theorem Zajg(i:Ins)(w:World):Calls prog 118 #[insV i] w fun e w'=>∃v,e=.returned v/\w'.ownsRow w.heap.size 3 1 v (Zid i (rowP i.op)).length (i64s (Zid i (rowP i.op)))/\Below w.heap.size w w':=by
 have K1:=fun w=>Zzb i.op w;have K2:=fun w h=>Zsj w.heap.size 0 i (rowP i.op) w h;clear K2;have K3:=fun b v h=>Zsj b 0 i (rowP i.op) v h;have HIC:=fun(v:World) k=>Zamp (w:=w) (v:=v) (i:=i) (t:=45) k;obtain⟨r,hr⟩:∃r,rowP i.op=r:=⟨_,rfl⟩
 obtain⟨X,hX⟩:∃X,Zig i.op=X:=⟨_,rfl⟩
 simp only[hr,hX]at K1 K3 ⊢;obtain⟨RL,hRL⟩:∃x,Zid i r=x:=⟨_,rfl⟩
 simp only[hRL]at K3 ⊢;obtain⟨L0,L1,L2,L3,L4⟩:=r;obtain⟨op,D,A,B,E,n,bt⟩:=i;unfold insV;unfold rwV at K1 K3;simp only at K1 K3 HIC ⊢;have HK:Hid (∀w,Calls prog 53 #[.int .i64 op] w fun e w'=>e=.returned (.tuple #[.agg #[.int .i64 L0,.int .i64 L1,.int .i64 L2,.int .i64 L3,.int .i64 L4],.bool X])/\Below w.heap.size w w'):=K1;have HK3:Hid (∀b v,Zhw v b 0 (inC ⟨op,D,A,B,E,n,bt⟩)->Calls prog 56 #[.agg #[.int .i64 L0,.int .i64 L1,.int .i64 L2,.int .i64 L3,.int .i64 L4],.pointer (some ⟨b,0,none⟩)] v fun e w'=>∃u,e=.returned u/\w'.ownsRow v.heap.size 3 1 u RL.length (i64s RL)/\Below v.heap.size v w'):=K3;have HCC:Hid (∀v,Below (w.alloc (.cells #[.int .i64 op,.int .i64 D,.int .i64 A,.int .i64 B,.int .i64 E,.int .i64 n,.int .u32 bt] 45)).heap.size (w.alloc (.cells #[.int .i64 op,.int .i64 D,.int .i64 A,.int .i64 B,.int .i64 E,.int .i64 n,.int .u32 bt] 45)) v->Zhw v w.heap.size 0 (inC ⟨op,D,A,B,E,n,bt⟩)):=HIC;clear K1 K3 HIC hr hX hRL;go_enter func118,ntmps118;go_wp2_with(first
  |(go_at_call 53;refine(HK.out _).mono ?_;rintro e w1 ⟨rfl,hb1⟩)
  |(go_at_call 56;refine(HK3.out _ _ (HCC.out _ (bel hb1 (Zhq _ _)))).mono ?_;rintro e w2 ⟨u,rfl,hu,hb2⟩;have HU:Hid (w2.ownsRow (w1.alloc (.cells #[.int .i64 L0,.int .i64 L1,.int .i64 L2,.int .i64 L3,.int .i64 L4] 134)).heap.size 3 1 u RL.length (i64s RL)):=hu;have HB2:Hid (Below w.heap.size w w2):=bel (bel (bel (Zhq _ _) hb1) (Zhq _ _)) hb2;have hs:w.heap.size<=(w1.alloc (.cells #[.int .i64 L0,.int .i64 L1,.int .i64 L2,.int .i64 L3,.int .i64 L4] 134)).heap.size:=(bel (bel (Zhq _ _) hb1) (Zhq _ _)).size;have HSZ:Hid (w.heap.size<=(w1.alloc (.cells #[.int .i64 L0,.int .i64 L1,.int .i64 L2,.int .i64 L3,.int .i64 L4] 134)).heap.size):=hs;clear hu hb2 hs))
 go_ret;exact⟨_,rfl,Zmv HU.out HSZ.out,HB2.out⟩
def flat{α:Type}(f:α->List Value)(l:List α):List Value:=l.flatMap f
theorem Zov{α:Type}{f:α->List Value}{k:Nat}(hf:∀x,(f x).length=k):∀l:List α,(flat f l).length=l.length*k
 |[]=>by simp[flat]
 |a::l=>by
  have e:flat f (a::l)=f a++flat f l:=by simp[flat]
  rw[e,List.length_append,Zov hf l,hf,List.length_cons,Nat.add_mul,Nat.one_mul,Nat.add_comm]
theorem Zui{α:Type}{f:α->List Value}{k:Nat}(hf:∀x,(f x).length=k):∀ (l:List α) (i j:Nat) (hi:i<l.length),j<k->(flat f l)[i*k+j]? =(f l[i])[j]?
 |[],i,j,hi,hj=>absurd hi (Nat.not_lt_zero _)
 |a::l,0,j,hi,hj=>by
  have e:flat f (a::l)=f a++flat f l:=by simp[flat]
  rw[e,Nat.zero_mul,Nat.zero_add,List.getElem?_append_left (by rw[hf];exact hj)];rfl
 |a::l,i+1,j,hi,hj=>by
  have e:flat f (a::l)=f a++flat f l:=by simp[flat]
  have e2:(i+1)*k+j-(f a).length=i*k+j:=by rw[hf,Nat.add_mul,Nat.one_mul];omega
  rw[e,List.getElem?_append_right (by rw[hf,Nat.add_mul,Nat.one_mul];omega),e2];exact Zui hf l i j (by simpa using hi) hj
theorem Zrj{α:Type}(f:α->List Value)(l m:List α):flat f (l++m)=flat f l++flat f m:=by simp[flat]
theorem Zny{α:Type}{f:α->List Value}{k:Nat}(hf:∀x,(f x).length=k){w:World}{B:Nat}{t:TypeId}{v:Value}{l:List α}(h:w.ownsRow B t k v l.length (flat f l)):RowG k f w v l:=by
 by_cases h0:l=[]
 ·subst h0;obtain⟨p,c,hv⟩:=Zjl h;exact⟨p,c,hv,.inl rfl⟩
 ·obtain⟨g,cap,hv,_,_,_,_,hcl⟩:=Zns h (List.length_pos_iff.2 h0);refine⟨_,cap,hv,.inr ⟨g,0,rfl,fun i hi j hj=>?_⟩⟩;rw[Nat.zero_add];exact hcl _ _ (by rw[Zui hf l i j hi (by rw[←hf l[i]];exact hj)];exact List.getElem?_eq_getElem hj)
theorem Zacx(b o j:Nat):(⟨b,o,none⟩:Addr).add j=⟨b,o+j,none⟩:=by unfold Addr.add;split<;>simp_all
theorem Zzl{α:Type}{f:α->List Value}{k:Nat}(hk:0<k)(hf:∀x,(f x).length=k){w:World}{b o:Nat}{l:List α}(h:∀i (hi:i<l.length),Zhw w b (o+i*k) (f l[i]))(j:Nat)(u:Value)(hu:(flat f l)[j]? =some u):w.cell? ((⟨b,o,none⟩:Addr).add j)=some u:=by
 have hj:j<l.length*k:=by have:=(List.getElem?_eq_some_iff.1 hu).1;rwa[Zov hf]at this
 have hi:j/k<l.length:=Nat.div_lt_of_lt_mul (by rw[Nat.mul_comm];exact hj);have hm:j%k<k:=Nat.mod_lt _ hk;have e:j=j/k*k+j%k:=by rw[Nat.mul_comm];exact(Nat.div_add_mod j k).symm
 rw[e,Zui hf l _ _ hi hm]at hu;rw[Zacx];have:=(h _ hi).at _ hu;rw[Nat.add_assoc,←e]at this;exact this
theorem Zoy{α:Type}{f:α->List Value}{k bytes:Nat}{t e:TypeId}{z:Value}{i:TypeInfo}(hk:0<k)(hf:∀x,(f x).length=k)(h1:∀x,∀u∈f x,u.oneCell'=true)(ht:prog.underlying t=some (.slice e))(hi:prog.info? e=some i)(hz:i.zero=some z)(hsize:i.size=k)(hby:i.bytes=bytes)(hzs:z.cells.size=k)
 {l:List α} {v:Value} {w:World} (h:RowG k f w v l) (hl:l.length<=maxLen) (hb:l.length*bytes<=140737488355328) (ty:TypeId):
 ∃v' w',(Builtin.append_ #[t,t] ty #[.slice none 0 0,v]).run prog w=.ok v' w'/\Below w.heap.size w w'/\w'.ownsRow w.heap.size e k v' l.length (flat f l):=by
 obtain⟨p,c,rfl,h⟩:=h;by_cases h0:l=[]
 ·subst h0;refine⟨.slice none 0 0,w,?_,Below.refl _ _,⟨by simp[flat],.inl ⟨rfl,rfl⟩⟩⟩;exact Zdg
 ·obtain⟨b,o,rfl,h2⟩:=h.resolve_left h0;have hpos:0<l.length:=List.length_pos_iff.2 h0;obtain⟨g,cap,w',hr,hown,hg,hat,hlt⟩:=run_append_lies (P:=prog) w t ty w.heap.size e i z k bytes ht hi hz hsize hby hzs hk (.slice none 0 0) 0 [] (World.ownsRow_nil w _ _ k) ⟨b,o,none⟩ l.length c (flat f l) (Zov hf l) (Zzl hk hf h2) Zgt hpos oM (by rw[Nat.zero_add];exact hb) (Nat.le_refl _) w.heap.size rfl;rw[Nat.zero_add]at hr hown;exact⟨_,w',hr,⟨hg.os,hg.tape,hg.output,hg.size,fun j hj=>hg.block j hj (by show some j≠none;simp)⟩,by rw[List.nil_append]at hown;exact hown⟩
theorem Zit{P:Program}{w w':World}{ops:Array Oper}{rest:List Oper}{o:Oper}{a:Act}{Q:Exit->Act->World->Prop}(hgd:o.guard=none)(s x:Operand)(t:TypeId)
 (ho:o.op=.call {callee:=.builtin .append,args:=#[s,x],argTypes:=#[t,t]}) (v v2 v':Value) (hs:a.eval s=v) (hx:a.eval x=v2) (hr:(Builtin.append_ #[t,t] o.type #[v,v2]).run P w=.ok v' w')
 (h:wpList P ops Q rest (a.put o.dst v') w'):wpList P ops Q (o::rest) a w:=
 wpList_plain hgd fun _ hK=>by
  unfold Oper.wp execOp;simp only[ho,resolve,invoke,builtin,Sem.run_bind,Sem.run_pure,Result.andThen_ok,List.map_toArray,List.map_cons,List.map_nil,hs,hx,hr];exact hK _ _ h
theorem Zaej:∀x:Ins,∀u∈inC x,u.oneCell'=true:=fun x u hu=>by simp[inC]at hu;rcases hu with rfl|rfl|rfl|rfl|rfl|rfl|rfl<;>rfl
theorem Zzd:(prog.info? 45).map (fun i=>(i.zero,i.size,i.bytes))=some (some (.agg #[.int .i64 0,.int .i64 0,.int .i64 0,.int .i64 0,.int .i64 0,.int .i64 0,.int .u32 0]),7,56):=kR
theorem app_ins{l:List Ins}{v:Value}{w:World}(h:RowG 7 inC w v l)(hl:l.length*56<=140737488355328)(ty:TypeId):
 ∃v' w',(Builtin.append_ #[25,25] ty #[.slice none 0 0,v]).run prog w=.ok v' w'/\Below w.heap.size w w'/\w'.ownsRow w.heap.size 45 7 v' l.length (flat inC l):=by
 obtain⟨i0,hi0,hz0,hz1,hz2⟩:=info_parts Zzd;exact Zoy dE Zqf Zaej underlying25 hi0 hz0 hz1 hz2 rfl h mL hl ty


end Go.Proofs.YtbinohkcolcbfaaGreat
