import Derived.Test.YtjlpkjblkllfbaaGreatDoorOwn6
import Derived.Test.YtjlpkjblkllfbaaGreatDoorOwn7
import Derived.Maps.OwnSet
import Derived.Test.YtjlpkjblkllfbaaGreatDoorOwn1
import Derived.Test.YtjlpkjblkllfbaaGreatDoorOwn2
import Derived.Test.YtjlpkjblkllfbaaGreatDoorOwn4
import Derived.Test.YtjlpkjblkllfbaaGreatDoorOwn3
import Derived.WalkSmall
import Derived.Test.YtjlpkjblkllfbaaGreatDoorRows
import Derived.Lay
import Derived.LaidMore
import Derived.Stop.LaidErr
import Derived.Lib.LaidTab
import Derived.Shelf.Vars
import Derived.Deep.DeepHandedRow
namespace Go.Proofs.YtjlpkjblkllfbaaGreatDoor
open Go.RowKit Go.Proofs.Tryz
set_option linter.all false
set_option maxRecDepth 100000
set_option maxHeartbeats 16000000
section
open Go.RowKit Go.Maps Go.Proofs.Tryz
theorem Hr(v:Value)(l:List Bc)(hl:l.length<=140737488351232)(hM:∀p∈l,p.name.size<=140737488351232)(w:World)(hr:Rd w v l):
 Calls prog 124 #[v,.func (.func 88) #[] #[]] w fun e w'=>(∃x:Int,e=.returned (.int .i64 x)/\-1<=x/\(0<=x↔l.all AK=false))/\Below w.heap.size w w':=by
 obtain⟨p,c,rfl,hr⟩:=hr;obtain⟨n,hn⟩:=gA (l.length)
 rw[hn]at hl |-;have HN:Hid (l.length=n):=hn;have HR:Hid (P6 w p l):=hr;have HM:Hid (∀p∈l,p.name.size<=140737488351232):=hM;clear hn hr hM;go_enter func124,ntmps124;go_wp2
 go_loopw [8] (fun iv wr=>Below w.heap.size w wr/\∃j:Nat,j<=n/\iv=.int .i64 j/\Hid (∀i (h:i<l.length),i<j->AK l[i]=true)) (fun iv _=>n-(intOf iv).toNat)
 case atStart=>exact⟨BY w,0,gJ _,rfl,fun i h hi=>absurd hi (Nat.not_lt_zero _)⟩
 case round=>
  obtain⟨hb,j,hj,rfl,hp⟩:=hrel;by_cases hlt:j<n
  .have hll:j<l.length:=by rw[HN.out];exact hlt
   obtain⟨b,o,rfl,hx⟩:=HR.at hll;obtain⟨x0,x1,x2⟩:=hx.below hb;have i1:(0:Int)<=(j:Int):=oM;have i2:(j:Int)<(n:Int):=oM;have KN:=GS l[j] (HM.out _ (gD hll));unfold pv at KN;have NX:Hid (AK l[j]=true->∀i (h:i<l.length),i<j+1->AK l[i]=true):=fun hq i h hi=>by
    exact U1
   have NB:Hid (AK l[j]=false->l.all AK=false):=fun h=>List.all_eq_false.2 ⟨l[j],gD hll,by rw[h];decide⟩;obtain⟨N,hN⟩:=gA (AK l[j])
   rw[hN]at NX NB;simp only[hN]at KN;have HK:Hid (∀w,Calls prog 88 #[.agg #[.string l[j].name,.int .i64 l[j].kind,.int .i64 l[j].len]] w fun e w'=>e=.returned (.bool (!N))/\Below w.heap.size w w'):=KN;clear KN hN hp hx;cases N
   .go_wp2_with(go_at_call 88;refine(HK.out _).mono ?_;rintro e w1 ⟨rfl,hb3⟩);go_ret;exact⟨⟨_,rfl,oM,⟨fun _=>NB.out sM,fun _=>by omega⟩⟩,bel hb hb3⟩
   .go_wp2_with(go_at_call 88;refine(HK.out _).mono ?_;rintro e w1 ⟨rfl,hb3⟩);go_roundw
    case rel=>exact⟨bel hb hb3,j+1,oM,gN,NX.out sM⟩
    case measure=>simp[intOf];omega
  .have:j=n:=oM;subst this;have HF:Hid (l.all AK=true):=List.all_eq_true.2 fun q hq=>by
    obtain⟨i,hi,rfl⟩:=List.mem_iff_getElem.1 hq;exact Wh
   clear hp;go_wp2;go_ret;exact⟨⟨_,rfl,oM,⟨fun h=>absurd h oM,fun h=>absurd h (by rw[HF.out];decide)⟩⟩,hb⟩
theorem IP(v:Value)(l:List Bc)(hl:l.length<=140737488351232)(hM:∀p∈l,p.name.size<=140737488351232)(w:World)(hr:Rd w v l):
 Calls prog 87 #[v,.func (.func 88) #[] #[]] w fun e w'=>e=.returned (.bool (!l.all AK))/\Below w.heap.size w w':=by
 have HK:Hid (Calls prog 124 #[v,.func (.func 88) #[] #[]] w fun e w'=>(∃x:Int,e=.returned (.int .i64 x)/\-1<=x/\(0<=x↔l.all AK=false))/\Below w.heap.size w w'):=Hr v l hl hM w hr;obtain⟨N,hN⟩:=gA (l.all AK)
 rw[hN]at HK |-;clear hN;go_enter func87,ntmps87;go_wp2_with(go_at_call 124;refine HK.mono ?_;rintro e w1 ⟨⟨x,rfl,hx1,hx2⟩,hb1⟩;have HX:Hid (0<=x↔N=false):=hx2;clear hx2);go_ret;refine⟨A8 ?_,hb1⟩;have:=HX.out;cases N
 .simp only[Bool.not_false,decide_eq_true_eq];exact this.2 rfl
 .simp only[Bool.not_true,decide_eq_false_iff_not];intro h;exact absurd (this.1 h) dE
end
section
open Go.RowKit Go.Maps Go.WideMaps Go.Proofs.Tryz
def Ez(s:ByteArray):Lit:=.string s.data.toList
theorem JR{a b:ByteArray}(h:Ez a=Ez b):a=b:=by
 unfold Ez at h;injection h with h;exact Pn h
theorem CN(s:ByteArray):∀ (l:List Bc) (p:Bc),AR s (l++[p])=match AR s l with |some i=>some i|none=>if p.name=s then some l.length else none
 |[],p=>by simp[AR]
 |q::l,p=>by
  rw[List.cons_append];simp only[AR];by_cases h:q.name=s
  .rw[if_pos h,if_pos h]
  .rw[if_neg h,if_neg h,CN s l p];cases AR s l with
   |some i=>rfl
   |none=>
    simp only[Option.map_none];split
    .rfl
    .rfl
theorem JL(s:ByteArray):∀ (l:List Bc),(AR s l).isSome=l.any fun q=>decide (q.name=s)
 |[]=>rfl
 |q::l=>by
  simp only[AR,List.any_cons];by_cases h:q.name=s
  .rw[if_pos h];simp[h]
  .rw[if_neg h,Option.isSome_map,JL s l];simp[h]
theorem DK:∀ (l:List Bc) (p:Bc),B6 (l++[p])=(B6 l||(AR p.name l).isSome)
 |[],p=>rfl
 |q::l,p=>by
  rw[List.cons_append];simp only[B6,List.any_append,List.any_cons,List.any_nil,DK l p,JL];have e:decide (p.name=q.name)=decide (q.name=p.name):=by rw[decide_eq_decide];exact eq_comm
  rw[e];cases(l.any fun r=>decide (r.name=q.name))<;>cases(B6 l)<;>cases(decide (q.name=p.name))<;>cases(l.any fun r=>decide (r.name=p.name))<;>rfl
structure De(l:List Bc)(D:DataW Unit):Prop where
 has:∀s,Maps.has D (Ez s)=(AR s l).isSome
 val:∀s i z,AR s l=some i->D.atKey (Ez s) z=.lit (.int .i64 (i:Int))
 no:B6 l=false->Maps.size D=l.length
 yes:B6 l=true->Maps.size D<l.length
theorem Lg:De [] (.map []):=⟨fun _=>rfl,fun s i z h=>by simp[AR]at h,fun _=>rfl,fun h=>by simp[B6]at h⟩
theorem Lh{l:List Bc}{D:DataW Unit}(h:De l D){p:Bc}(hh:Maps.has D (Ez p.name)=true):De (l++[p]) D:=by
 have hp:(AR p.name l).isSome=true:=by rw[<-h.has];exact hh
 have hf:∀s,AR s (l++[p])=AR s l:=fun s=>by
  rw[CN];cases e:AR s l with
  |some i=>rfl
  |none=>
   simp only;rw[if_neg];rintro rfl;rw[e]at hp;exact absurd hp dE
 have hle:Maps.size D<=l.length:=by
  cases e:B6 l
  .exact Nat.le_of_eq (h.no e)
  .exact Nat.le_of_lt (h.yes e)
 refine⟨fun s=>by rw[hf];exact h.has s,fun s i z e=>h.val s i z (by rw[<-hf];exact e),fun e=>?_,fun e=>?_⟩
 .rw[DK,hp,Bool.or_true]at e;exact absurd e dE
 .simp only[List.length_append,List.length_cons,List.length_nil];omega
theorem Lf{l:List Bc}{D:DataW Unit}(h:De l D)(ht:Tidy D){p:Bc}(hh:Maps.has D (Ez p.name)=false):De (l++[p]) (D.put (Ez p.name) (.lit (.int .i64 (l.length:Int)))):=by
 have hp:(AR p.name l).isSome=false:=by rw[<-h.has];exact hh
 have hpn:AR p.name l=none:=by simpa using hp
 have hsz:Maps.size (D.put (Ez p.name) (.lit (.int .i64 (l.length:Int))))=Maps.size D+1:=by rw[size_put ht,hh];rfl
 refine⟨fun s=>?_,fun s i z e=>?_,fun e=>?_,fun e=>?_⟩
 .by_cases hs:s=p.name
  .subst hs;rw[has_put_same ht.isMap (show WideAt.IsKeyLit (Ez p.name)from trivial),CN,hpn];simp
  .rw[has_put_other (fun e=>hs (JR e)),h.has,CN];cases e:AR s l with
   |some i=>rfl
   |none=>simp only;rw[if_neg (fun e=>hs e.symm)]
 .by_cases hs:s=p.name
  .subst hs;rw[CN,hpn]at e;simp at e;subst e;exact atKey_put_same ht.isMap (show WideAt.IsKeyLit (Ez p.name)from trivial) _ _
  .rw[atKey_put_other (fun e=>hs (JR e))];refine h.val s i z ?_;rw[CN]at e;cases e2:AR s l with
   |some j=>rw[e2]at e;exact e
   |none=>rw[e2]at e;simp only at e;rw[if_neg (fun e=>hs e.symm)]at e;exact absurd e sM
 .rw[DK,hp,Bool.or_false]at e;rw[hsz,h.no e];simp
 .rw[DK,hp,Bool.or_false]at e;have:=h.yes e;rw[hsz];simp only[List.length_append,List.length_cons,List.length_nil];omega
theorem Se:Keyed prog 9:=string_keyed underlying9
theorem TQ(w:World):(zeroValue 3).run prog w=.ok (.int .i64 0) w:=kR
def E3(w:World)(b n:Nat)(D:DataW Unit):Prop:=w.ownsMap prog 9 (plainElem prog 3) b n D
theorem E3.below{w w':World}{b n:Nat}{D:DataW Unit}(h:E3 w b n D)(k:Below w.heap.size w w'):E3 w' b n D:=
 World.ownsMap.kept h (row:=none) ⟨k.os,k.tape,k.output,k.size,fun j hj _=>k.block j hj⟩ sM
theorem L9(v:Value)(l:List Bc)(hl:l.length<=140737488351232)(hM:∀p∈l,p.name.size<=140737488351232)(w:World)(hr:Rd w v l):
 Calls prog 89 #[v] w fun e w'=>∃D,e=.returned (.map (some w.heap.size))/\E3 w' w.heap.size l.length D/\De l D/\Below w.heap.size w w':=by
 obtain⟨p,c,rfl,hr⟩:=hr;obtain⟨n,hn⟩:=gA (l.length)
 rw[hn]at hl |-;have HN:Hid (l.length=n):=hn;have HR:Hid (P6 w p l):=hr;have HM:Hid (∀p∈l,p.name.size<=140737488351232):=hM;clear hn hr hM;have hmm:=@run_makeMap prog;go_enter func89,ntmps89;go_wp2
 go_loopw [11] (fun iv wr=>Below w.heap.size w wr/\∃j:Nat,j<=n/\iv=.int .i64 j/\∃D,Hid (E3 wr w.heap.size j D/\De (l.take j) D)) (fun iv _=>n-(intOf iv).toNat)
 case atStart=>exact⟨A2 _ _,0,gJ _,rfl,.map [],World.ownsMap_made _ _ _ _,Lg⟩
 case round=>
  obtain⟨hb,j,hj,rfl,D,hD⟩:=hrel;by_cases hlt:j<n
  .have hll:j<l.length:=by rw[HN.out];exact hlt
   obtain⟨b,o,rfl,hx⟩:=HR.at hll;obtain⟨x0,x1,x2⟩:=hx.below hb;have i1:(0:Int)<=(j:Int):=oM;have i2:(j:Int)<(n:Int):=oM;have hkey:keyOf prog 9 (.string l[j].name)=some (Ez l[j].name):=keyOf_string_mk underlying9 (by have:=HM.out _ (gD hll);unfold maxLen;omega);have HT:Hid (l.take (j+1)=l.take j++[l[j]]/\(l.take j).length=j):=⟨Ex hll,by rw[List.length_take];omega⟩
   have hwf:(Lit.int .i64 (j:Int)).wf=true:=WalkArith.wf_i64 oM;have hown:Hid (E3 (wr.alloc (.cells #[.string l[j].name,.int .i64 l[j].kind,.int .i64 l[j].len] 41)) w.heap.size j D):=hD.1.below (A2 _ _);have HF:Hid (De (l.take j) D):=hD.2;clear hD hx;cases hsn:Maps.has D (Ez l[j].name)
   .have HS:Hid (Maps.has D (Ez l[j].name)=false):=hsn;have tok:True:=trivial;clear hsn;go_wp2_with(first
     |(at_lookup;have _t:=tok;refine wpList_lookup_own_ok_int _ rfl _ _ 46 rfl 9 3 .i64 Se underlying46 underlying3 (TQ _) w.heap.size j D rfl hown.out _ _ rfl hkey ?_;intro c hat hwc;rw[HS.out];clear hat hwc tok)
     |(at_mapUpdate;refine wpList_mapUpdate_own _ rfl _ _ _ 46 rfl 9 3 Se underlying46 _ w.heap.size j D rfl hown.out mL _ _ _ rfl rfl hkey _ [] (plainElem_int underlying3 hwf) ?_;intro w1 hown1 hgrow1;have H1:Hid (E3 w1 w.heap.size (j+1) (D.put (Ez l[j].name) (.lit (.int .i64 (j:Int))))/\World.grownBy _ w1 (some w.heap.size)):=⟨hown1,hgrow1⟩;clear hown1 hgrow1))
    go_roundw
    case rel=>
     refine⟨?_,j+1,oM,gN,_,H1.1,?_⟩
     .exact Below.grown (bel hb (A2 _ _)) H1.2 (by have:=hb.size;simp;omega) (fun k e=>by cases e;exact gF _)
     .rw[HT.1];have:=Lf HF.out (World.ownsMap.tidy hown.out Se) HS.out;rw[HT.2]at this;exact this
    case measure=>simp[intOf];omega
   .have HS:Hid (Maps.has D (Ez l[j].name)=true):=hsn;clear hsn;go_wp2_with(at_lookup;refine wpList_lookup_own_ok_int _ rfl _ _ 46 rfl 9 3 .i64 Se underlying46 underlying3 (TQ _) w.heap.size j D rfl hown.out _ _ rfl hkey ?_;intro c hat hwc;rw[HS.out];clear hat hwc);go_roundw
    case rel=>
     refine⟨bel hb (A2 _ _),j+1,oM,gN,D,World.ownsMap.mono hown.out (Nat.le_succ _),?_⟩;rw[HT.1];exact Lh HF.out HS.out
    case measure=>simp[intOf];omega
  .have:j=n:=oM;subst this;have HF:Hid (E3 wr w.heap.size j D/\De l D):=⟨hD.1,by have:=hD.2;rw[List.take_of_length_le (by rw[HN.out];exact gF _)]at this;exact this⟩
   clear hD;go_wp2;go_ret;exact⟨D,rfl,HF.1,HF.2,hb⟩
end
section
open Go.RowKit Go.Maps Go.WideMaps Go.Proofs.Tryz
theorem Hb(v:Value)(l:List Bc)(hl:l.length<=140737488351232)(hM:∀p∈l,p.name.size<=140737488351232)(w:World)(hr:Rd w v l):
 Calls prog 53 #[v] w fun e w'=>e=.returned (.int .i64 (AC l))/\Below w.heap.size w w':=by
 have K1:=IP v l hl hM w hr;have K2:=fun w h=>L9 v l hl hM w h;have K3:=fun w h=>LZ v l hl hM w h;have HR:Hid (Rd w v l):=hr;have htb:=F8 l;unfold AC;obtain⟨p,c,rfl,_⟩:=hr;obtain⟨n,hn⟩:=gA (l.length)
 obtain⟨N,hN⟩:=gA (l.all AK)
 obtain⟨T,hT⟩:=gA (C4 l)
 rw[hn]at K1 K2 K3 HR hl htb |-;rw[hN]at K1 |-;rw[hT]at htb |-;simp only[hT]at K3;have HK1:Hid (Calls prog 87 #[.slice p n c,.func (.func 88) #[] #[]] w fun e w'=>e=.returned (.bool (!N))/\Below w.heap.size w w'):=K1;have HK2:Hid (∀w,Rd w (.slice p n c) l->Calls prog 89 #[.slice p n c] w fun e w'=>∃D,e=.returned (.map (some w.heap.size))/\E3 w' w.heap.size n D/\De l D/\Below w.heap.size w w'):=K2;have HK3:Hid (∀w,Rd w (.slice p n c) l->Calls prog 90 #[.slice p n c] w fun e w'=>e=.returned (.int .i64 T)/\Below w.heap.size w w'):=K3;have HN:Hid (l.length=n):=hn;clear K1 K2 K3 hN hT hM hn;by_cases h64:n>64
 .have h64':(64:Int)<(n:Int):=oM;rw[if_pos h64];clear h64;go_enter func53,ntmps53;go_wp2
  all_goals(go_ret;exact⟨rfl,BY w⟩)
 .have h64':¬ (64:Int)<(n:Int):=oM;rw[if_neg h64];clear h64;cases N
  .rw[if_pos rfl];go_enter func53,ntmps53;go_wp2_with(go_at_call 87;refine HK1.mono ?_;rintro e w1 ⟨rfl,hb1⟩)
   all_goals(go_ret;exact⟨rfl,hb1⟩)
  .rw[if_neg dE];cases htw:B6 l
   .rw[if_neg dE];have HW:Hid (B6 l=false):=htw;clear htw;by_cases h3:T>65536
    .rw[if_pos h3];have h3':(65536:Int)<T:=oM;exact Xw
    .rw[if_neg h3];have h3':¬ (65536:Int)<T:=oM;exact Xw
   .rw[if_pos rfl];have HW:Hid (B6 l=true):=htw;clear htw;go_enter func53,ntmps53;go_wp2_with(first
     |(go_at_call 87;refine HK1.mono ?_;rintro e w1 ⟨rfl,hb1⟩)
     |(go_at_call 89;refine(HK2.out _ (HR.below hb1)).mono ?_;rintro e w2 ⟨D,rfl,hm,hf,hb2⟩;have HM1:Hid (E3 w2 w1.heap.size n D):=hm;have hs:Maps.size D<n:=(by have:=hf.yes HW.out;rw[HN.out]at this;exact this);have hs2:(Maps.size D:Int)<(n:Int):=oM;clear hm hf hs)
     |(have _t:=HM1;at_len;refine wpList_len_own _ rfl _ 46 rfl 9 3 underlying46 _ w1.heap.size n D rfl HM1.out ?_;clear HM1))
    all_goals(go_ret;exact⟨rfl,bel hb1 hb2⟩)
end
theorem Hl(C:Nat)(v0 v1 v2 v3:Value)(c:Cd)(hk:BE c)(w:World)(hc:BM w C v0 v1 v2 v3 c):
 Calls prog 54 #[.pointer (some ⟨C,0,none⟩)] w fun e w'=>e=.returned (.bool (Ap c))/\Below w.heap.size w w':=by
 obtain⟨hcc,hcv⟩:=hc;have c0:=hcc.at 0 rfl;have c1:=hcc.at 1 rfl;rw[Nat.zero_add]at c0 c1;have hC:=Ad c0;simp only at hC;have hr:=hcv.regs;obtain⟨p,q,rfl,hrr⟩:=hcv.regs;obtain⟨p0,q0,rfl,hrr0⟩:=hcv.sign;have HB:=hk.regsL;have HB0:=hk.signL;unfold Ap;obtain⟨M,hM⟩:=gA (c.sign.length)
 rw[hM]at c0 HB0 |-;obtain⟨l,hl⟩:=gA (c.regs)
 rw[hl]at c1 hr HB |-;obtain⟨N,hN⟩:=gA (l.length)
 have HN:Hid (l.length=N):=hN;rw[hN]at c1 hr HB;have HR:Hid (Ce 2 IG w (.slice p N q) l):=hr;clear hl hM hN hr hrr hrr0 hcc hcv hk;go_enter func54,ntmps54;go_wp2
 go_loopw [10] (fun iv wr=>Below w.heap.size w wr/\∃j:Nat,j<=N/\iv=.int .i64 j/\Hid (∀i (h:i<l.length),i<j->AG l[i] M=true)) (fun iv _=>N-(intOf iv).toNat)
 case atStart=>exact⟨BY w,0,gJ _,rfl,fun i h hi=>absurd hi (Nat.not_lt_zero _)⟩
 case round=>
  obtain⟨hb,j,hj,rfl,hp⟩:=hrel;by_cases hlt:j<N
  .have hll:j<l.length:=by rw[HN.out];exact hlt
   obtain⟨b,o,rfl,hx⟩:=HR.at hll;have hx':=hx.below hb;have x0:=hx'.at 0 rfl;have x1:=hx'.at 1 rfl;rw[Nat.add_zero]at x0;have z0:=kc hb c0;have hC2:=Ad z0;have hb2:=Ad x0;simp only at hC2 hb2;have n1:C≠wr.heap.size:=oM;have n2:b≠wr.heap.size:=oM;have i1:(0:Int)<=(j:Int):=oM;have i2:(j:Int)<(N:Int):=oM;have KN:=EO l[j] p0 M q0 HB0;have NX:Hid (AG l[j] M=true->∀i (h:i<l.length),i<j+1->AG l[i] M=true):=fun hq i h hi=>by
    exact U1
   have NB:Hid (AG l[j] M=false->(l.all fun t=>AG t M)=false):=fun h=>List.all_eq_false.2 ⟨l[j],gD hll,by rw[h];decide⟩;obtain⟨T,hT⟩:=gA (l[j])
   rw[hT]at x0 x1 KN NX NB;obtain⟨X,hX⟩:=gA (AG T M)
   rw[hX]at NX NB;simp only[hX]at KN;obtain⟨K,P⟩:=T;unfold Dj at KN;simp only at x0 x1 KN;have HK:Hid (∀w,Calls prog 91 #[.agg #[.int .i64 K,.int .i64 P],.slice p0 M q0] w fun e w'=>e=.returned (.bool X)/\Below w.heap.size w w'):=KN;have HC:Hid (∀v,Below (wr.alloc (.cells #[.int .i64 K,.int .i64 P] 43)).heap.size (wr.alloc (.cells #[.int .i64 K,.int .i64 P] 43)) v->v.cell? ⟨C,0,none⟩=some (.slice p0 M q0)/\v.cell? ⟨wr.heap.size,0,none⟩=some (.int .i64 K)/\v.cell? ⟨wr.heap.size,1,none⟩=some (.int .i64 P)):=
    fun v hv=>⟨kc hv (kc (A2 _ _) z0),kc hv sG,kc hv sG⟩
   have f1:=(HC.out _ (BY _)).1;clear KN hT hX hp hx hx';cases X
   .go_wp2;refine rG (fun v=>v.cell? ⟨C,0,none⟩=some (.slice p0 M q0)/\v.cell? ⟨wr.heap.size,0,none⟩=some (.int .i64 K)/\v.cell? ⟨wr.heap.size,1,none⟩=some (.int .i64 P)) fun yH=>?_;refine Tc 0 1 2 ?_;refine Tb 3 4 ?_;clear yH;refine Aw 5 fun K hK=>?_;go_simp;(go_at_call 91;refine(HK.out _).mono ?_;rintro e w1 ⟨rfl,hb1⟩;have HB1:=bel (A4 _) hb1;obtain⟨y0,y1,y2⟩:=HC.out w1 HB1);try(go_wp2_with fail)
    refine AU hK fun yH=>?_;clear hK K;refine Bn 6 ?_;refine wpAnyH_done kR ?_ _;go_wp2;go_ret;exact⟨A8 (NB.out sM).symm,bel hb (bel (A2 _ _) HB1)⟩
   .go_wp2;refine rG (fun v=>v.cell? ⟨C,0,none⟩=some (.slice p0 M q0)/\v.cell? ⟨wr.heap.size,0,none⟩=some (.int .i64 K)/\v.cell? ⟨wr.heap.size,1,none⟩=some (.int .i64 P)) fun yH=>?_;refine Tc 0 1 2 ?_;refine Tb 3 4 ?_;clear yH;refine Aw 5 fun K hK=>?_;go_simp;(go_at_call 91;refine(HK.out _).mono ?_;rintro e w1 ⟨rfl,hb1⟩;have HB1:=bel (A4 _) hb1;obtain⟨y0,y1,y2⟩:=HC.out w1 HB1);try(go_wp2_with fail)
    refine AU hK fun yH=>?_;clear hK K;refine Bn 6 ?_;refine wpAnyH_done kR ?_ _;go_wp2;go_roundw
    case rel=>exact⟨bel hb (bel (A2 _ _) HB1),j+1,oM,gN,NX.out sM⟩
    case measure=>simp[intOf];omega
  .have:j=N:=oM;subst this;have HF:Hid ((l.all fun t=>AG t M)=true):=List.all_eq_true.2 fun t ht=>by
    obtain⟨i,hi,rfl⟩:=List.mem_iff_getElem.1 ht;exact Wh
   clear hp;go_wp2;go_ret;exact⟨A8 HF.symm,hb⟩
theorem Hg(C:Nat)(v0 v1 v2 v3:Value)(c:Cd)(hk:BE c)(w:World)(hc:BM w C v0 v1 v2 v3 c):
 Calls prog 55 #[.pointer (some ⟨C,0,none⟩)] w fun e w'=>e=.returned (.bool (Bj c))/\Below w.heap.size w w':=by
 obtain⟨hcc,hcv⟩:=hc;have c0:=hcc.at 0 rfl;have c1:=hcc.at 2 rfl;rw[Nat.zero_add]at c0 c1;have hC:=Ad c0;simp only at hC;have hr:=hcv.slots;obtain⟨p,q,rfl,hrr⟩:=hcv.slots;obtain⟨p0,q0,rfl,hrr0⟩:=hcv.sign;have HB:=hk.slotsL;have HB0:=hk.signL;have HSB:Hid (∀s∈c.slots,0<=s.bits/\s.bits<4294967296):=hk.sbits;unfold Bj;obtain⟨M,hM⟩:=gA (c.sign.length)
 rw[hM]at c0 HB0 |-;obtain⟨l,hl⟩:=gA (c.slots)
 rw[hl]at c1 hr HB HSB |-;obtain⟨N,hN⟩:=gA (l.length)
 have HN:Hid (l.length=N):=hN;rw[hN]at c1 hr HB;have HR:Hid (Ce 5 Jp w (.slice p N q) l):=hr;clear hl hM hN hr hrr hrr0 hcc hcv hk;go_enter func55,ntmps55;go_wp2
 go_loopw [10] (fun iv wr=>Below w.heap.size w wr/\∃j:Nat,j<=N/\iv=.int .i64 j/\Hid (∀i (h:i<l.length),i<j->Bb l[i] M=true)) (fun iv _=>N-(intOf iv).toNat)
 case atStart=>exact⟨BY w,0,gJ _,rfl,fun i h hi=>absurd hi (Nat.not_lt_zero _)⟩
 case round=>
  obtain⟨hb,j,hj,rfl,hp⟩:=hrel;by_cases hlt:j<N
  .have hll:j<l.length:=by rw[HN.out];exact hlt
   obtain⟨b,o,rfl,hx⟩:=HR.at hll;have hx':=hx.below hb;have x0:=hx'.at 0 rfl;have x1:=hx'.at 1 rfl;have x2:=hx'.at 2 rfl;have x3:=hx'.at 3 rfl;have x4:=hx'.at 4 rfl;rw[Nat.add_zero]at x0;have z0:=kc hb c0;have hC2:=Ad z0;have hb2:=Ad x0;simp only at hC2 hb2;have n1:C≠wr.heap.size:=oM;have n2:b≠wr.heap.size:=oM;have i1:(0:Int)<=(j:Int):=oM;have i2:(j:Int)<(N:Int):=oM;have KN:=EO l[j].ty p0 M q0 HB0;have KB:=L5 l[j] (HSB.out _ (gD hll)).1 (HSB.out _ (gD hll)).2;have NX:Hid (Bb l[j] M=true->∀i (h:i<l.length),i<j+1->Bb l[i] M=true):=fun hq i h hi=>by
    exact U1
   have NB:Hid (Bb l[j] M=false->(l.all fun t=>Bb t M)=false):=fun h=>List.all_eq_false.2 ⟨l[j],gD hll,by rw[h];decide⟩;obtain⟨T,hT⟩:=gA (l[j])
   rw[hT]at x0 x1 x2 x3 x4 KN KB NX NB;have hsm:Bb T M=(AG T.ty M&&ES T):=rfl;rw[hsm]at NX NB;obtain⟨X,hX⟩:=gA (AG T.ty M)
   obtain⟨Y,hY⟩:=gA (ES T)
   rw[hX,hY]at NX NB;simp only[hX]at KN;simp only[hY]at KB;obtain⟨⟨K,P⟩,Q,B,I⟩:=T;unfold Dj at KN;unfold P8 at KB;simp only at x0 x1 x2 x3 x4 KN KB;have HK:Hid (∀w,Calls prog 91 #[.agg #[.int .i64 K,.int .i64 P],.slice p0 M q0] w fun e w'=>e=.returned (.bool X)/\Below w.heap.size w w'):=KN;have HBW:Hid (∀w,Calls prog 92 #[.agg #[.int .i64 K,.int .i64 P,.bool Q,.int .u32 B,.int .i64 I]] w fun e w'=>e=.returned (.bool Y)/\Below w.heap.size w w'):=KB;have HC:Hid (∀v,Below (wr.alloc (.cells #[.int .i64 K,.int .i64 P,.bool Q,.int .u32 B,.int .i64 I] 59)).heap.size (wr.alloc (.cells #[.int .i64 K,.int .i64 P,.bool Q,.int .u32 B,.int .i64 I] 59)) v->v.cell? ⟨C,0,none⟩=some (.slice p0 M q0)/\v.cell? ⟨wr.heap.size,0,none⟩=some (.int .i64 K)/\v.cell? ⟨wr.heap.size,1,none⟩=some (.int .i64 P)/\v.cell? ⟨wr.heap.size,2,none⟩=some (.bool Q)/\v.cell? ⟨wr.heap.size,3,none⟩=some (.int .u32 B)/\v.cell? ⟨wr.heap.size,4,none⟩=some (.int .i64 I)):=
    fun v hv=>⟨kc hv (kc (A2 _ _) z0),kc hv sG,kc hv sG,kc hv sG,kc hv sG,kc hv sG⟩
   have f1:=(HC.out _ (BY _)).1;clear KN KB hT hX hY hp hx hx' hsm;cases X
   .go_wp2;refine rG (fun v=>v.cell? ⟨C,0,none⟩=some (.slice p0 M q0)/\v.cell? ⟨wr.heap.size,0,none⟩=some (.int .i64 K)/\v.cell? ⟨wr.heap.size,1,none⟩=some (.int .i64 P)/\v.cell? ⟨wr.heap.size,2,none⟩=some (.bool Q)/\v.cell? ⟨wr.heap.size,3,none⟩=some (.int .u32 B)/\v.cell? ⟨wr.heap.size,4,none⟩=some (.int .i64 I)) fun yH=>?_;refine Tf 0 1 2 3 4 5 ?_;clear yH;refine Aw 6 fun K hK=>?_;go_simp;(go_at_call 91;refine(HK.out _).mono ?_;rintro e w1 ⟨rfl,hb1⟩;have HB1:=bel (A4 _) hb1;obtain⟨y0,y1,y2,y3,y4,y5⟩:=HC.out w1 HB1);try(go_wp2_with fail)
    refine AU hK fun yH=>?_;clear hK K;refine Tb 7 8 ?_;refine Cu 9 ?_;refine Cu 10 ?_;refine Cu 11 ?_;refine Bn 12 ?_;refine wpAnyH_done kR ?_ _;go_wp2;go_ret;exact⟨A8 (NB.out sM).symm,bel hb (bel (A2 _ _) HB1)⟩
   .cases Y
    .go_wp2;refine rG (fun v=>v.cell? ⟨C,0,none⟩=some (.slice p0 M q0)/\v.cell? ⟨wr.heap.size,0,none⟩=some (.int .i64 K)/\v.cell? ⟨wr.heap.size,1,none⟩=some (.int .i64 P)/\v.cell? ⟨wr.heap.size,2,none⟩=some (.bool Q)/\v.cell? ⟨wr.heap.size,3,none⟩=some (.int .u32 B)/\v.cell? ⟨wr.heap.size,4,none⟩=some (.int .i64 I)) fun yH=>?_;refine Tf 0 1 2 3 4 5 ?_;clear yH;refine Aw 6 fun K hK=>?_;go_simp;(go_at_call 91;refine(HK.out _).mono ?_;rintro e w1 ⟨rfl,hb1⟩;have HB1:=bel (A4 _) hb1;obtain⟨y0,y1,y2,y3,y4,y5⟩:=HC.out w1 HB1);try(go_wp2_with fail)
     refine AU hK fun yH=>?_;clear hK K;refine Tc 7 8 9 ?_;clear yH;refine Aw 10 fun K hK=>?_;go_simp;(go_at_call 92;refine(HBW.out _).mono ?_;rintro e w2 ⟨rfl,hb2⟩;have HB2:=bel HB1 hb2;obtain⟨y0,y1,y2,y3,y4,y5⟩:=HC.out w2 HB2);try(go_wp2_with fail)
     refine AU hK fun yH=>?_;clear hK K;refine Tb 11 12 ?_;refine wpAnyH_done kR ?_ _;go_wp2;go_ret;exact⟨A8 (NB.out sM).symm,bel hb (bel (A2 _ _) HB2)⟩
    .go_wp2;refine rG (fun v=>v.cell? ⟨C,0,none⟩=some (.slice p0 M q0)/\v.cell? ⟨wr.heap.size,0,none⟩=some (.int .i64 K)/\v.cell? ⟨wr.heap.size,1,none⟩=some (.int .i64 P)/\v.cell? ⟨wr.heap.size,2,none⟩=some (.bool Q)/\v.cell? ⟨wr.heap.size,3,none⟩=some (.int .u32 B)/\v.cell? ⟨wr.heap.size,4,none⟩=some (.int .i64 I)) fun yH=>?_;refine Tf 0 1 2 3 4 5 ?_;clear yH;refine Aw 6 fun K hK=>?_;go_simp;(go_at_call 91;refine(HK.out _).mono ?_;rintro e w1 ⟨rfl,hb1⟩;have HB1:=bel (A4 _) hb1;obtain⟨y0,y1,y2,y3,y4,y5⟩:=HC.out w1 HB1);try(go_wp2_with fail)
     refine AU hK fun yH=>?_;clear hK K;refine Tc 7 8 9 ?_;clear yH;refine Aw 10 fun K hK=>?_;go_simp;(go_at_call 92;refine(HBW.out _).mono ?_;rintro e w2 ⟨rfl,hb2⟩;have HB2:=bel HB1 hb2;obtain⟨y0,y1,y2,y3,y4,y5⟩:=HC.out w2 HB2);try(go_wp2_with fail)
     refine AU hK fun yH=>?_;clear hK K;refine Tb 11 12 ?_;refine wpAnyH_done kR ?_ _;go_wp2;go_roundw
     case rel=>exact⟨bel hb (bel (A2 _ _) HB2),j+1,oM,gN,NX.out sM⟩
     case measure=>simp[intOf];omega
  .have:j=N:=oM;subst this;have HF:Hid ((l.all fun t=>Bb t M)=true):=List.all_eq_true.2 fun t ht=>by
    obtain⟨i,hi,rfl⟩:=List.mem_iff_getElem.1 ht;exact Wh
   clear hp;go_wp2;go_ret;exact⟨A8 HF.symm,hb⟩
theorem GK(C:Nat)(v0 v1 v2 v3:Value)(c:Cd)(hk:BE c)(w:World)(hc:BM w C v0 v1 v2 v3 c):
 Calls prog 29 #[.pointer (some ⟨C,0,none⟩)] w fun e w'=>e=.returned (.int .i64 (C7 c))/\Below w.heap.size w w':=by
 have K1:=Hb v0 c.sign hk.signL hk.names w hc.2.sign.rd;have K2:=fun w h=>Hl C v0 v1 v2 v3 c hk w h;have K3:=fun w h=>Hg C v0 v1 v2 v3 c hk w h;unfold C7;obtain⟨E,hE⟩:=gA (AC c.sign)
 obtain⟨X,hX⟩:=gA (Ap c)
 obtain⟨Y,hY⟩:=gA (Bj c)
 simp only[hE]at K1 |-;simp only[hX]at K2 |-;simp only[hY]at K3 |-;have HC0:Hid (BM w C v0 v1 v2 v3 c):=hc;obtain⟨hcc,hcv⟩:=hc;have b1:=hk.regsL;have b2:=hk.slotsL;have b3:=hk.listL;obtain⟨p1,q1,rfl,r1⟩:=hcv.regs;obtain⟨p2,q2,rfl,r2⟩:=hcv.slots;obtain⟨p3,q3,rfl,r3⟩:=hcv.list;have c0:=hcc.at 0 rfl;have c1:=hcc.at 1 rfl;have c2:=hcc.at 2 rfl;have c3:=hcc.at 3 rfl;rw[Nat.zero_add]at c0 c1 c2 c3;obtain⟨N1,h1⟩:∃N,c.regs.length=N:=⟨_,rfl⟩
 obtain⟨N2,h2⟩:∃N,c.slots.length=N:=⟨_,rfl⟩
 obtain⟨N3,h3⟩:∃N,c.list.length=N:=⟨_,rfl⟩
 rw[h1]at K2 K3 c1 b1 HC0 |-;rw[h2]at K2 K3 c2 b2 HC0 |-;rw[h3]at K2 K3 c3 b3 HC0 |-;have HK1:Hid (Calls prog 53 #[v0] w fun e w'=>e=.returned (.int .i64 E)/\Below w.heap.size w w'):=K1;have HK2:Hid (∀w,BM w C v0 (.slice p1 N1 q1) (.slice p2 N2 q2) (.slice p3 N3 q3) c->Calls prog 54 #[.pointer (some ⟨C,0,none⟩)] w fun e w'=>e=.returned (.bool X)/\Below w.heap.size w w'):=K2;have HK3:Hid (∀w,BM w C v0 (.slice p1 N1 q1) (.slice p2 N2 q2) (.slice p3 N3 q3) c->Calls prog 55 #[.pointer (some ⟨C,0,none⟩)] w fun e w'=>e=.returned (.bool Y)/\Below w.heap.size w w'):=K3;have HC:Hid (∀v,Below w.heap.size w v->v.cell? ⟨C,1,none⟩=some (.slice p1 N1 q1)/\v.cell? ⟨C,2,none⟩=some (.slice p2 N2 q2)/\v.cell? ⟨C,3,none⟩=some (.slice p3 N3 q3)):=fun v hv=>⟨kc hv c1,kc hv c2,kc hv c3⟩
 clear K1 K2 K3 hE hX hY h1 h2 h3 r1 r2 r3 hcc hcv hk;by_cases hE:E=0
 .subst hE;rw[if_neg sM];by_cases s1:16384<N1\/32768<N3
  .rw[if_pos s1];by_cases s2:16384<N1
   .have s2':(16384:Int)<(N1:Int):=oM;clear s1 s2;exact WP
   .have s2':¬ (16384:Int)<(N1:Int):=oM;have s3':(32768:Int)<(N3:Int):=oM;clear s1 s2;exact WP
  .rw[if_neg s1];have s2':¬ (16384:Int)<(N1:Int):=oM;have s3':¬ (32768:Int)<(N3:Int):=oM;clear s1;by_cases s4:4096<N2
   .rw[if_pos s4];have s4':(4096:Int)<(N2:Int):=oM;clear s4;exact WP
   .rw[if_neg s4];have s4':¬ (4096:Int)<(N2:Int):=oM;clear s4;cases X
    .go_enter func29,ntmps29;go_wp2_with(first
      |(go_at_call 53;refine HK1.mono ?_;rintro e w1 ⟨rfl,hb1⟩;obtain⟨d1,d2,d3⟩:=HC.out w1 hb1)
      |(go_at_call 54;refine(HK2.out _ (HC0.below hb1)).mono ?_;rintro e w2 ⟨rfl,hb2⟩;have HB2:=bel hb1 hb2)
      |(go_at_call 55;refine(HK3.out _ (HC0.below HB2)).mono ?_;rintro e w3 ⟨rfl,hb3⟩;have HB3:=bel HB2 hb3))
     all_goals(go_ret;exact⟨rfl,HB2⟩)
    .cases Y
     .exact XH
     .exact XH
 .rw[if_pos hE];have hE':(E==0)=false:=by simpa using hE
  go_enter func29,ntmps29;go_wp2_with(go_at_call 53;refine HK1.mono ?_;rintro e w1 ⟨rfl,hb1⟩)
  all_goals(go_ret;exact⟨rfl,hb1⟩)
theorem Pw : prog.globalNamed "internal/strconv.uint64pow10" = some 1 := kR
structure BL(w:World):Prop where
 mx:∃m,w.cell? ⟨0,0,none⟩=some (.int .i64 m)
 tab : Lib.TabIs prog w "internal/strconv.uint64pow10" .u64 Lib.pow10Tab
 syn:∃te pe,w.cell? ⟨2,0,none⟩=some (.iface te pe)
 rng:∃te pe,w.cell? ⟨3,0,none⟩=some (.iface te pe)
theorem BL.below{w w':World}(h:BL w)(k:Below w.heap.size w w'):BL w':=by
 refine⟨?_,?_,?_,?_⟩
 .obtain⟨m,hm⟩:=h.mx;exact⟨m,PK k hm⟩
 .exact var?_below k Pw (Ad (Lib.TabIs.cell h.tab Pw 0 dE)) h.tab
 .obtain⟨a,b,hm⟩:=h.syn;exact⟨a,b,PK k hm⟩
 .obtain⟨a,b,hm⟩:=h.rng;exact⟨a,b,PK k hm⟩
theorem Pm(w:World)(os:Array Obj):Below w.heap.size w (Go.Sort.grow w os):=by
 refine⟨rfl,rfl,rfl,by simp[Go.Sort.grow],fun j hj=>?_⟩;simp[Go.Sort.grow,Array.getElem?_append_left hj]
theorem PI(n:Int)(h0: -9223372036854775808<=n)(h1:n<=9223372036854775807)(w:World)(hL:BL w):
 Calls prog 109 #[.int .i64 n] w fun e w'=>e=.returned (.string (A6 (Lib.itoa n)))/\Below w.heap.size w w':=
 (Gr n h0 h1 w hL.tab).mono fun e w' ⟨he,k,os,hw⟩=>⟨he,by subst hw;exact bel (L6 w k) (Pm _ os)⟩
section
open Go.ChangeShapes Go.WideShapes Go.ChangeAt Go.RowKit
theorem VJ:(Tryz.prog.globals[1]?).map (·.type)=some 211:=kR
theorem Vo:Tryz.prog.cellsOf 211=20:=kR
theorem Vp:Tryz.prog.cellsOf 178=1:=kR
theorem TF:Tryz.prog.cellsOf 9=1:=kR
theorem Vn:Tryz.prog.cellsOf 223=1:=kR
theorem TH : Tryz.prog.globalNamed "strconv.ErrSyntax" = some 2 := kR
theorem TG : Tryz.prog.globalNamed "strconv.ErrRange" = some 3 := kR
theorem VI:(Tryz.prog.globals[2]?).map (·.type)=some 161:=kR
theorem VH:(Tryz.prog.globals[3]?).map (·.type)=some 161:=kR
theorem VG : "*" ++ "errors.errorString" = "*errors.errorString" := dE
theorem MP (u : TypeId) (h : Tryz.prog.typeName? 3 u = some "*errors.errorString") : u = 221 :=
 typeName_ptr_named (nm := "errors.errorString") (by rw [VG]; kernel_rfl) kR dE u (by rw [VG]; exact h)
theorem Sk{W:World}(h:W.ShapedOpen Tryz.prog):∃m,W.cell? ⟨0,0,none⟩=some (.int .i64 m):=
 cell_of_shapedOpen_int (zero:=#[.int .i64 0]) h (of_decide_eq_true kR) kR rfl kR kR Tryz.underlying3
theorem Sd{W:World}(hsh:W.ShapedOpen Tryz.prog)(h:laidMetH Tryz.prog Rows.asmParsesRow.laid W):BL W:=by
 rw[MakeChecks.laidMetH_plain _ _ _ kR]at h;have h0 : laidMet Tryz.prog (("math/bits.deBruijn32tab", Rows.laid_math_bits_deBruijn32tab) :: ("math/bits.deBruijn64tab", Rows.laid_math_bits_deBruijn64tab) :: ("internal/strconv.uint64pow10", Lib.tabData .u64 Lib.pow10Tab) :: ("strconv.ErrRange", Rows.laid_strconv_ErrRange) :: [("strconv.ErrSyntax", Rows.laid_strconv_ErrSyntax)]) W := h
 have h2:=h0.tail.tail;have h4:=h2.tail;obtain⟨a0,s0,hv0,-,-,-⟩:=laid_sentinel h4 TG VH Tryz.underlying161 MP Tryz.underlying221 Tryz.underlying223 rfl rfl Tryz.underlying9 Vn TF;obtain⟨a1,s1,hv1,-,-,-⟩:=laid_sentinel h4.tail TH VI Tryz.underlying161 MP Tryz.underlying221 Tryz.underlying223 rfl rfl Tryz.underlying9 Vn TF;refine⟨Sk hsh,Lib.tabIs_of_head Pw VJ Tryz.underlying211 Tryz.underlying178 Vp Vo h2,⟨221,.pointer (some a1),?_⟩,⟨221,.pointer (some a0),?_⟩⟩
 .have e:=World.var?_cell TH hv1 0;simpa using e
 .have e:=World.var?_cell TG hv0 0;simpa using e
noncomputable def wlA (os:Os):World:=World.laidAll Tryz.prog os Rows.asmParsesRow.laid
theorem UY(os:Os)(args:Array Value):laidMetH Tryz.prog Rows.asmParsesRow.laid ((wlA os).forCall (fun _ _=>0) ⟨#[],args,[]⟩).memory:=by
 rw[MakeChecks.laidMetH_plain _ _ _ kR];exact laidMet_laidAll _ kR kR
theorem OZ(os:Os)(args:Array Value):((wlA os).forCall (fun _ _=>0) ⟨#[],args,[]⟩).Shaped Tryz.prog:=
 World.shaped_of_ZipB kR kR
theorem Me{H:Type}{enc:TypeId×Value->H}{os:Os}{f:FuncId}{fn:Func}{s:OpenSpec}{conds:List PathCond}{apart:Bool}{laid:List (String×DataW Unit)}(args:Array Value)
 (hok:Input.okWideB Tryz.prog ((wlA os).forCall (fun _ _=>0) ⟨#[],args,[]⟩) f ⟨#[],args,[]⟩=true)
 (hrow:s.preRow enc Tryz.prog fn conds apart laid ((wlA os).forCall (fun _ _=>0) ⟨#[],args,[]⟩).memory args):
 ∃ (w:World) (tape:Tape) (i:Input),w.os=os/\(w.forCall tape i).Shaped Tryz.prog/\i.vars=[]/\Input.okWide Tryz.prog (w.forCall tape i) .any w.heap.size f i/\
  s.preRow enc Tryz.prog fn conds apart laid (w.forCall tape i).memory i.args/\({}:Assume).holds Tryz.prog (lone (Frame.enter Tryz.prog f i.args .normal) [] (w.forCall tape i)):=
 ⟨wlA os,fun _ _=>0,⟨#[],args,[]⟩,World.laidAll_os _ _ _,OZ os args,rfl,(Input.okWide_of_okWideB hok).2,hrow,by
  simp only[Assume.holds]
  exact⟨sM,sM,sM,sM,sM⟩⟩
end
end Go.Proofs.YtjlpkjblkllfbaaGreatDoor
