import Derived.Test.YtbinohkcolcbfaaGreatPart16
import Derived.Shelf.Small.Bits
import Derived.Test.YtbinohkcolcbfaaGreatPart11
import Derived.Test.YtbinohkcolcbfaaGreatPart2
import Derived.Test.YtbinohkcolcbfaaGreatPart15
import Derived.Deep.OwnRows
import Derived.Test.YtbinohkcolcbfaaGreatPart1
namespace Go.Proofs.YtbinohkcolcbfaaGreat
open Go.RowKit Go.Proofs.Tryz
set_option linter.unusedVariables false
set_option linter.unusedSimpArgs false
set_option maxRecDepth 100000
set_option maxHeartbeats 16000000
theorem Zzk(b:Bool)(w:World):Calls prog 169 #[.bool b] w fun e w'=>e=.returned (.int .u32 (flag b))/\w'=w:=by
 cases b<;>(go_enter func169,ntmps169;go_wp2;go_ret;exact⟨rfl,rfl⟩)
theorem Zaml(a:Int)(h:IsP a)(w:World):Calls prog 168 #[.int .u32 a] w fun e w'=>e=.returned (.int .u32 (flag (ffin a)))/\Below w.heap.size w w':=by
 go_enter func168,ntmps168;go_wp2_with(first
  |(go_at_call 170;refine(Zaht _ h.1 h.2 _).mono ?_;rintro e w1 ⟨rfl,hw'⟩;obtain rfl:=hw'.symm)
  |(go_at_call 169;refine(Zzk _ _).mono ?_;rintro e w1 ⟨rfl,hw'⟩;obtain rfl:=hw'.symm))
 go_ret;exact⟨rfl,Zkp _⟩
theorem Zahv(a:Int)(h:IsP a)(b:Int)(k:IsP b)(w:World):Calls prog 175 #[.int .u32 a,.int .u32 b] w fun e w'=>e=.returned (.int .u32 (flag (Zpg a b)))/\Below w.heap.size w w':=by
 go_enter func175,ntmps175;go_wp2_with(first
  |(go_at_call 176;refine(Zasa _ h.1 h.2 _ k.1 k.2 _).mono ?_;rintro e w1 ⟨rfl,hw'⟩;obtain rfl:=hw'.symm)
  |(go_at_call 169;refine(Zzk _ _).mono ?_;rintro e w1 ⟨rfl,hw'⟩;obtain rfl:=hw'.symm))
 go_ret;exact⟨rfl,Zkp _⟩
theorem Zajo(a b c:Int)(ha:IsP a)(hb:IsP b)(hc:IsP c)(w:World):Calls prog 177 #[.agg #[.int .u32 a,.int .u32 b,.int .u32 c]] w fun e w'=>e=.returned (.int .u32 (fsel a b c))/\Below w.heap.size w w':=by
 go_enter func177,ntmps177;go_wp2_with(go_at_call 144;refine(Zwp _ ha.1 ha.2 _ hb.1 hb.2 _ hc.1 hc.2 _).mono ?_;rintro e w1 ⟨rfl,hw'⟩;obtain rfl:=hw'.symm);go_ret;exact⟨rfl,Zjg w _⟩
theorem Zaln(k:Nat)(hen:EntV k)(f:Int->Int)(hk:∀ (a:Int) (v:World),IsP a->Calls prog k #[.int .u32 a] v fun e v'=>e=.returned (.int .u32 (f a))/\Below v.heap.size v v')
 (g:Nat) (a b c:Int) (ha:IsP a) (w:World) (hg:w.cell? ⟨g,0,none⟩=some (.func (.func k) #[] #[])):
 Calls prog 190 #[.agg #[.int .u32 a,.int .u32 b,.int .u32 c],.pointer (some ⟨g,0,none⟩)] w fun e w'=>e=.returned (.int .u32 (f a))/\Below w.heap.size w w':=by
 have hg2:∀o,(w.alloc o).cell? ⟨g,0,none⟩=some (.func (.func k) #[] #[]):=fun o=>((Zjg w o).cell (Zkj hg)).trans hg;have HK:Hid (∀ (v:World),Calls prog k #[.int .u32 a] v fun e v'=>e=.returned (.int .u32 (f a))/\Below v.heap.size v v'):=fun v=>hk a v ha;clear hk;unfold EntV at hen;go_enter func190,ntmps190;exact Zfb
theorem Zamm(k:Nat)(hen:EntV k)(f:Int->Int->Int)(hk:∀ (a b:Int) (v:World),IsP a->IsP b->Calls prog k #[.int .u32 a,.int .u32 b] v fun e v'=>e=.returned (.int .u32 (f a b))/\Below v.heap.size v v')
 (g:Nat) (a b c:Int) (ha:IsP a) (hb:IsP b) (w:World) (hg:w.cell? ⟨g,0,none⟩=some (.func (.func k) #[] #[])):
 Calls prog 192 #[.agg #[.int .u32 a,.int .u32 b,.int .u32 c],.pointer (some ⟨g,0,none⟩)] w fun e w'=>e=.returned (.int .u32 (f a b))/\Below w.heap.size w w':=by
 have hg2:∀o,(w.alloc o).cell? ⟨g,0,none⟩=some (.func (.func k) #[] #[]):=fun o=>((Zjg w o).cell (Zkj hg)).trans hg;have HK:Hid (∀ (v:World),Calls prog k #[.int .u32 a,.int .u32 b] v fun e v'=>e=.returned (.int .u32 (f a b))/\Below v.heap.size v v'):=fun v=>hk a b v ha hb;clear hk;unfold EntV at hen;go_enter func192,ntmps192;exact Zfb
def Zjf(w:World)(D:Value)(f:Int->Int->Int->Int):Prop:=
 ∃k cap,D=.func (.func k) #[] cap/\EntV k/\∀ (a b c:Int) (v:World),IsP a->IsP b->IsP c->Below w.heap.size w v->
  Calls prog k (#[.agg #[.int .u32 a,.int .u32 b,.int .u32 c]]++cap) v fun e v'=>e=.returned (.int .u32 (f a b c))/\Below v.heap.size v v'
theorem Zjf.below{w w':World}{D:Value}{f:Int->Int->Int->Int}(h:Zjf w D f)(hb:Below w.heap.size w w'):Zjf w' D f:=by
 obtain⟨k,cap,e,hen,h⟩:=h;exact⟨k,cap,e,hen,fun a b c v ha hb' hc hv=>h a b c v ha hb' hc (belV hb hv)⟩
theorem Zpo(k:Nat)(hen:EntV k)(f:Int->Int)(hk:∀ (a:Int) (v:World),IsP a->Calls prog k #[.int .u32 a] v fun e v'=>e=.returned (.int .u32 (f a))/\Below v.heap.size v v')(w:World):
 Calls prog 164 #[.func (.func k) #[] #[]] w fun e w'=>∃D,e=.returned D/\Zjf w' D (fun a b c=>f a)/\Below w.heap.size w w':=by
 go_enter func164,ntmps164;go_wp2;go_ret;exact⟨_,rfl,⟨190,_,rfl,enters_of func190 kR rfl,fun a b c v ha hb hc hv=>Zaln k hen f hk w.heap.size a b c ha v ((hv.cell sM).trans sM)⟩,Zjg w _⟩
theorem Znb(k:Nat)(hen:EntV k)(f:Int->Int->Int)(hk:∀ (a b:Int) (v:World),IsP a->IsP b->Calls prog k #[.int .u32 a,.int .u32 b] v fun e v'=>e=.returned (.int .u32 (f a b))/\Below v.heap.size v v')(w:World):
 Calls prog 171 #[.func (.func k) #[] #[]] w fun e w'=>∃D,e=.returned D/\Zjf w' D (fun a b c=>f a b)/\Below w.heap.size w w':=by
 go_enter func171,ntmps171;go_wp2;go_ret;exact⟨_,rfl,⟨192,_,rfl,enters_of func192 kR rfl,fun a b c v ha hb hc hv=>Zamm k hen f hk w.heap.size a b c ha hb v ((hv.cell sM).trans sM)⟩,Zjg w _⟩
theorem instr_3(w:World):Calls prog 145 #[.int .i64 3] w fun e w'=>∃D,e=.returned (.tuple #[.int .i64 1,D])/\Zjf w' D (opf 3)/\Below w.heap.size w w':=by
 go_enter func145,ntmps145;go_wp2_with(go_at_call 164;refine(Zpo 101 (enters_of func101 kR rfl) canon (fun a v h=>((Zmg a h.1 h.2 v).mono fun e w' h=>⟨h.1,by rw[h.2];exact Zkp _⟩)) _).mono ?_;rintro e w1 ⟨D,rfl,hD,hb1⟩;have HD:Hid (Zjf w1 D (opf 3)):=hD;clear hD);go_returns;exact⟨_,rfl,HD.out,hb1⟩
theorem Zara(w:World):Calls prog 145 #[.int .i64 11] w fun e w'=>∃D,e=.returned (.tuple #[.int .i64 1,D])/\Zjf w' D (opf 11)/\Below w.heap.size w w':=by
 go_enter func145,ntmps145;go_wp2_with(go_at_call 164;refine(Zpo 165 (enters_of func165 kR rfl) Zks (fun a v h=>Zapn a h.1 h.2 v) _).mono ?_;rintro e w1 ⟨D,rfl,hD,hb1⟩;have HD:Hid (Zjf w1 D (opf 11)):=hD;clear hD);go_returns;exact⟨_,rfl,HD.out,hb1⟩
theorem Zarl(w:World):Calls prog 145 #[.int .i64 12] w fun e w'=>∃D,e=.returned (.tuple #[.int .i64 1,D])/\Zjf w' D (opf 12)/\Below w.heap.size w w':=by
 go_enter func145,ntmps145;go_wp2_with(go_at_call 164;refine(Zpo 166 (enters_of func166 kR rfl) fneg (fun a v h=>((neg_any a h.1 h.2 v).mono fun e w' h=>⟨h.1,by rw[h.2];exact Zkp _⟩)) _).mono ?_;rintro e w1 ⟨D,rfl,hD,hb1⟩;have HD:Hid (Zjf w1 D (opf 12)):=hD;clear hD);go_returns;exact⟨_,rfl,HD.out,hb1⟩
theorem Zaow(w:World):Calls prog 145 #[.int .i64 13] w fun e w'=>∃D,e=.returned (.tuple #[.int .i64 1,D])/\Zjf w' D (opf 13)/\Below w.heap.size w w':=by
 go_enter func145,ntmps145;go_wp2_with(go_at_call 164;refine(Zpo 167 (enters_of func167 kR rfl) fabs (fun a v h=>((abs_any a h.1 h.2 v).mono fun e w' h=>⟨h.1,by rw[h.2];exact Zkp _⟩)) _).mono ?_;rintro e w1 ⟨D,rfl,hD,hb1⟩;have HD:Hid (Zjf w1 D (opf 13)):=hD;clear hD);go_returns;exact⟨_,rfl,HD.out,hb1⟩
theorem Zaof(w:World):Calls prog 145 #[.int .i64 14] w fun e w'=>∃D,e=.returned (.tuple #[.int .i64 1,D])/\Zjf w' D (opf 14)/\Below w.heap.size w w':=by
 go_enter func145,ntmps145;go_wp2_with(go_at_call 164;refine(Zpo 168 (enters_of func168 kR rfl) (fun a=>flag (ffin a)) (fun a v h=>Zaml a h v) _).mono ?_;rintro e w1 ⟨D,rfl,hD,hb1⟩;have HD:Hid (Zjf w1 D (opf 14)):=hD;clear hD);go_returns;exact⟨_,rfl,HD.out,hb1⟩
theorem instr_4(w:World):Calls prog 145 #[.int .i64 4] w fun e w'=>∃D,e=.returned (.tuple #[.int .i64 2,D])/\Zjf w' D (opf 4)/\Below w.heap.size w w':=by
 go_enter func145,ntmps145;go_wp2_with(go_at_call 171;refine(Znb 142 (enters_of func142 kR rfl) fadd (fun a b v h k=>Zaem a h.1 h.2 b k.1 k.2 v) _).mono ?_;rintro e w1 ⟨D,rfl,hD,hb1⟩;have HD:Hid (Zjf w1 D (opf 4)):=hD;clear hD);go_returns;exact⟨_,rfl,HD.out,hb1⟩
theorem instr_5(w:World):Calls prog 145 #[.int .i64 5] w fun e w'=>∃D,e=.returned (.tuple #[.int .i64 2,D])/\Zjf w' D (opf 5)/\Below w.heap.size w w':=by
 go_enter func145,ntmps145;go_wp2_with(go_at_call 171;refine(Znb 172 (enters_of func172 kR rfl) fsub (fun a b v h k=>sub_any a h.1 h.2 b k.1 k.2 v) _).mono ?_;rintro e w1 ⟨D,rfl,hD,hb1⟩;have HD:Hid (Zjf w1 D (opf 5)):=hD;clear hD);go_returns;exact⟨_,rfl,HD.out,hb1⟩
theorem instr_6(w:World):Calls prog 145 #[.int .i64 6] w fun e w'=>∃D,e=.returned (.tuple #[.int .i64 2,D])/\Zjf w' D (opf 6)/\Below w.heap.size w w':=by
 go_enter func145,ntmps145;go_wp2_with(go_at_call 171;refine(Znb 139 (enters_of func139 kR rfl) fmul (fun a b v h k=>Zxr a h.1 h.2 b k.1 k.2 v) _).mono ?_;rintro e w1 ⟨D,rfl,hD,hb1⟩;have HD:Hid (Zjf w1 D (opf 6)):=hD;clear hD);go_returns;exact⟨_,rfl,HD.out,hb1⟩
theorem instr_7(w:World):Calls prog 145 #[.int .i64 7] w fun e w'=>∃D,e=.returned (.tuple #[.int .i64 2,D])/\Zjf w' D (opf 7)/\Below w.heap.size w w':=by
 go_enter func145,ntmps145;go_wp2_with(go_at_call 171;refine(Znb 173 (enters_of func173 kR rfl) fdiv (fun a b v h k=>div_any a h.1 h.2 b k.1 k.2 v) _).mono ?_;rintro e w1 ⟨D,rfl,hD,hb1⟩;have HD:Hid (Zjf w1 D (opf 7)):=hD;clear hD);go_returns;exact⟨_,rfl,HD.out,hb1⟩
theorem instr_8(w:World):Calls prog 145 #[.int .i64 8] w fun e w'=>∃D,e=.returned (.tuple #[.int .i64 2,D])/\Zjf w' D (opf 8)/\Below w.heap.size w w':=by
 go_enter func145,ntmps145;go_wp2_with(go_at_call 171;refine(Znb 143 (enters_of func143 kR rfl) fmin (fun a b v h k=>Zafv a h.1 h.2 b k.1 k.2 v) _).mono ?_;rintro e w1 ⟨D,rfl,hD,hb1⟩;have HD:Hid (Zjf w1 D (opf 8)):=hD;clear hD);go_returns;exact⟨_,rfl,HD.out,hb1⟩
theorem instr_9(w:World):Calls prog 145 #[.int .i64 9] w fun e w'=>∃D,e=.returned (.tuple #[.int .i64 2,D])/\Zjf w' D (opf 9)/\Below w.heap.size w w':=by
 go_enter func145,ntmps145;go_wp2_with(go_at_call 171;refine(Znb 174 (enters_of func174 kR rfl) fmax (fun a b v h k=>max_any a h.1 h.2 b k.1 k.2 v) _).mono ?_;rintro e w1 ⟨D,rfl,hD,hb1⟩;have HD:Hid (Zjf w1 D (opf 9)):=hD;clear hD);go_returns;exact⟨_,rfl,HD.out,hb1⟩
theorem Zarj(w:World):Calls prog 145 #[.int .i64 10] w fun e w'=>∃D,e=.returned (.tuple #[.int .i64 2,D])/\Zjf w' D (opf 10)/\Below w.heap.size w w':=by
 go_enter func145,ntmps145;go_wp2_with(go_at_call 171;refine(Znb 175 (enters_of func175 kR rfl) (fun a b=>flag (Zpg a b)) (fun a b v h k=>Zahv a h b k v) _).mono ?_;rintro e w1 ⟨D,rfl,hD,hb1⟩;have HD:Hid (Zjf w1 D (opf 10)):=hD;clear hD);go_returns;exact⟨_,rfl,HD.out,hb1⟩
theorem Zank(w:World):Calls prog 145 #[.int .i64 15] w fun e w'=>∃D,e=.returned (.tuple #[.int .i64 3,D])/\Zjf w' D (opf 15)/\Below w.heap.size w w':=by
 go_enter func145,ntmps145;go_wp2;go_returns;exact⟨_,rfl,⟨177,#[],rfl,enters_of func177 kR rfl,fun a b c v ha hb hc hv=>Zajo a b c ha hb hc v⟩,Zkp w⟩
theorem Zrm(op:Int)(h:Zjq op≠0):op=3\/op=11\/op=12\/op=13\/op=14\/op=4\/op=5\/op=6\/op=7\/op=8\/op=9\/op=10\/op=15:=by
 unfold Zjq at h;split at h
 ·omega
 ·split at h
  ·omega
  ·split at h
   ·omega
   ·exact absurd rfl h
theorem Zajf(op:Int)(h:Zjq op≠0)(w:World):Calls prog 145 #[.int .i64 op] w fun e w'=>∃D,e=.returned (.tuple #[.int .i64 (Zjq op),D])/\Zjf w' D (opf op)/\Below w.heap.size w w':=by
 rcases Zrm op h with rfl|rfl|rfl|rfl|rfl|rfl|rfl|rfl|rfl|rfl|rfl|rfl|rfl
 ·exact instr_3 w
 ·exact Zara w
 ·exact Zarl w
 ·exact Zaow w
 ·exact Zaof w
 ·exact instr_4 w
 ·exact instr_5 w
 ·exact instr_6 w
 ·exact instr_7 w
 ·exact instr_8 w
 ·exact instr_9 w
 ·exact Zarj w
 ·exact Zank w
def shpV(l:Nat->Nat):Nat->Option Nat
 |0=>some (l 0)
 |j+1=>match shpV l j with
  |none=>none
  |some n=>if l (j+1)=n then some n else if l (j+1)=0\/n=0 then none else if n=1 then some (l (j+1))else if l (j+1)=1 then some n else none
theorem Zqm{l:Nat->Nat}{j n:Nat}(h:shpV l j=some n):shpV l (j+1)=if l (j+1)=n then some n else if l (j+1)=0\/n=0 then none else if n=1 then some (l (j+1))else if l (j+1)=1 then some n else none:=by
 show(match shpV l j with |none=>none|some n=>_)=_;rw[h]
theorem Zqu{l:Nat->Nat}{j:Nat}(h:shpV l j=none):∀M,j<=M->shpV l M=none:=by
 intro M;induction M with
 |zero=>
  intro hj;have:j=0:=oM;subst this;exact h
 |succ M ih=>
  intro hj;rcases Nat.lt_or_ge M j with c|c
  ·have:j=M+1:=oM;subst this;exact h
  ·show(match shpV l M with |none=>none|some n=>_)=_;rw[ih c]
theorem shp_le{l:Nat->Nat}{N:Nat}(hl:∀i,l i<=N):∀ {M n:Nat},shpV l M=some n->n<=N:=by
 intro M;induction M with
 |zero=>intro n h;cases h;exact hl 0
 |succ M ih=>
  intro n h;cases e:shpV l M with
  |none=>rw[Zqu e (M+1) oM]at h;cases h
  |some k=>
   rw[Zqm e]at h;have:=ih e;have:=hl (M+1)
   repeat' split at h
   all_goals cases h
   all_goals omega
theorem Zacj{l:Nat->Nat}:∀ {M n:Nat},shpV l M=some n->∀i,i<=M->l i=n\/(l i=1/\n≠0):=by
 intro M;induction M with
 |zero=>
  intro n h i hi;cases h;have:i=0:=oM;subst this;exact .inl rfl
 |succ M ih=>
  intro n h i hi;cases e:shpV l M with
  |none=>rw[Zqu e (M+1) oM]at h;cases h
  |some k=>
   rw[Zqm e]at h;have hi':i<=M\/i=M+1:=oM;split at h
   ·cases h
    rcases hi' with c|c
    ·exact ih e i c
    ·subst c;left;assumption
   ·split at h
    ·cases h
    ·split at h
     ·cases h
      rcases hi' with c|c
      ·have:=ih e i c;omega
      ·subst c;exact .inl rfl
     ·split at h
      ·cases h
       rcases hi' with c|c
       ·exact ih e i c
       ·subst c;right;omega
      ·cases h
theorem Zakx(b o M cq:Nat)(P:Nat->Option Addr)(l c:Nat->Nat)(hM:M<=1048576)(hl:∀i,l i<=1048576)(hc:M+1<=cq)(w:World)(hh:∀i,i<M+1->w.cell? ⟨b,o+i,none⟩=some (.slice (P i) (l i) (c i))):
 Calls prog 146 #[.slice (some ⟨b,o,none⟩) (M+1) cq] w fun e w'=>e=.returned (.tuple #[.int .i64 ((shpV l M).getD 0:Nat),.bool (shpV l M).isSome])/\w'=w:=by
 have h0:=hh 0 oM;rw[Nat.add_zero]at h0;have i1:(1:Int)<=((M+1:Nat):Int):=oM;rcases Nat.eq_zero_or_pos M with hM0|hM0
 ·subst hM0;have HS:Hid ((shpV l 0).getD 0=l 0/\(shpV l 0).isSome=true):=⟨rfl,rfl⟩
  clear hh hl;go_enter func146,ntmps146;go_wp2
  all_goals(refine wp_loop_rounds 1 ?_;rw[rounds_succ];go_wp2;go_returns;exact⟨rfl,rfl⟩)
 ·have hq:¬ (cq=1):=oM;have hq2:1<cq:=oM;have HH:Hid ((∀i,i<M+1->w.cell? ⟨b,o+i,none⟩=some (.slice (P i) (l i) (c i)))/\∀i,l i<=1048576):=⟨hh,hl⟩
  clear hh hl;go_enter func146,ntmps146;go_wp2
  go_loopw [4,14] (fun nv iv wr=>wr=w/\∃j n:Nat,j<=M/\iv=.int .i64 j/\nv=.int .i64 n/\n<=1048576/\Hid (shpV l j=some n)) (fun _ iv _=>M-(intOf iv).toNat)
  case atStart=>exact⟨rfl,0,l 0,Nat.zero_le _,rfl,rfl,HH.out.2 0,rfl⟩
  case round=>
   obtain⟨rfl,j,n,hj,rfl,rfl,hn,hs⟩:=hrel;by_cases hlt:j<M
   ·have h1:wr.cell? ⟨b,o+1+j,none⟩=some (.slice (P (j+1)) (l (j+1)) (c (j+1))):=by have:=HH.out.1 (j+1) oM;rw[show o+(j+1)=o+1+j by omega]at this;exact this
    have i2:(0:Int)<=(j:Int):=oM;have i3:(j:Int)<(M:Int):=oM;have hl1:=HH.out.2 (j+1);obtain⟨L,hL⟩:∃L,L=l (j+1):=⟨_,rfl⟩
    have HSS:Hid (shpV l (j+1)=if L=n then some n else if L=0\/n=0 then none else if n=1 then some L else if L=1 then some n else none):=by subst hL;exact Zqm hs.out
    rw[←hL]at h1 hl1;clear hL;by_cases c1:L=n
    ·subst c1;have HS1:Hid (shpV l (j+1)=some L):=by have:=HSS.out;rw[if_pos rfl]at this;exact this
     clear HSS hs;go_wp2;go_roundw
     case rel=>exact⟨fT,j+1,L,oM,gN,rfl,hn,HS1⟩
     case measure=>simp[intOf];omega
    ·have c1':¬ ((L:Int)=(n:Int)):=oM;by_cases c2:L=0\/n=0
     ·have HS1:Hid (shpV l M=none):=by have:=HSS.out;rw[if_neg c1,if_pos c2]at this;exact Zqu this M oM
      clear HSS hs;rcases c2 with c2|c2
      ·subst c2;go_wp2;go_returns;exact⟨by rw[HS1.out];rfl,rfl⟩
      ·subst c2;have c3:¬ ((L:Int)=0):=oM;go_wp2;go_returns;exact⟨by rw[HS1.out];rfl,rfl⟩
     ·have c3:¬ ((L:Int)=0):=oM;have c4:¬ ((n:Int)=0):=oM;by_cases c5:n=1
      ·have HS1:Hid (shpV l (j+1)=some L):=by have:=HSS.out;rw[if_neg c1,if_neg c2,if_pos c5]at this;exact this
       clear HSS hs;subst c5;go_wp2;go_roundw
       case rel=>exact⟨fT,j+1,L,oM,gN,rfl,hl1,HS1⟩
       case measure=>simp[intOf];omega
      ·have c6:¬ ((n:Int)=1):=oM;by_cases c7:L=1
       ·have HS1:Hid (shpV l (j+1)=some n):=by have:=HSS.out;rw[if_neg c1,if_neg c2,if_neg c5,if_pos c7]at this;exact this
        clear HSS hs;subst c7;go_wp2;go_roundw
        case rel=>exact⟨fT,j+1,n,oM,gN,rfl,hn,HS1⟩
        case measure=>simp[intOf];omega
       ·have HS1:Hid (shpV l M=none):=by have:=HSS.out;rw[if_neg c1,if_neg c2,if_neg c5,if_neg c7]at this;exact Zqu this M oM
        have c8:¬ ((L:Int)=1):=oM;have c9:((L:Int) != 1)=true:=by simp[c8]
        clear HSS hs;go_wp2
        all_goals first
         |(
          have hq:((L:Int) != 1)=false:=by assumption
          rw[c9]at hq;cases hq)
         |(go_returns;exact⟨by rw[HS1.out];rfl,rfl⟩)
   ·have:j=M:=oM;subst this;go_wp2;go_returns;exact⟨by rw[hs.out];rfl,rfl⟩
def elAt(l:Nat->Nat)(X:Nat->Nat->Int)(m i j:Nat):Int:=if j<m then X j (if l j=1 then 0 else i)else 0
theorem Zjr{l:Nat->Nat}{X:Nat->Nat->Int}(hX:∀i j,IsP (X i j))(m i j:Nat):IsP (elAt l X m i j):=Zkd (hX _ _) Zpv
theorem el_step(F:Nat->Int)(j k:Nat):(if k=j then Value.int .u32 (F j)else .int .u32 (if k<j then F k else 0))=.int .u32 (if k<j+1 then F k else 0):=by
 exact Zez
theorem Zaqc(w:World)(t:TypeId):((w.alloc (.cells #[.int .u32 0,.int .u32 0,.int .u32 0] t)).alloc (.cells #[.int .u32 0,.int .u32 0,.int .u32 0] t)).rowIs (w.heap.size+1) t 3 (fun _=>.int .u32 0)/\((w.alloc (.cells #[.int .u32 0,.int .u32 0,.int .u32 0] t)).alloc (.cells #[.int .u32 0,.int .u32 0,.int .u32 0] t)).rowIs w.heap.size t 3 (fun _=>.int .u32 0):=by
 have h:∀i,i<3->(#[Value.int .u32 0,.int .u32 0,.int .u32 0]:Array Value)[i]? =some (.int .u32 0):=by
  intro i hi;have:i=0\/i=1\/i=2:=oM;rcases this with rfl|rfl|rfl<;>rfl
 have r1:=World.rowIs_alloc w #[.int .u32 0,.int .u32 0,.int .u32 0] t (fun _=>.int .u32 0) h;have r2:=World.rowIs_alloc (w.alloc (.cells #[.int .u32 0,.int .u32 0,.int .u32 0] t)) #[.int .u32 0,.int .u32 0,.int .u32 0] t (fun _=>.int .u32 0) h;have e:(w.alloc (.cells #[.int .u32 0,.int .u32 0,.int .u32 0] t)).heap.size=w.heap.size+1:=sM;rw[e]at r2;exact⟨r2,r1.alloc _⟩
theorem Zahm(place b o m cq:Nat)(P:Nat->Option Addr)(l c:Nat->Nat)(X:Nat->Nat->Int)(hm:m<=3)(hi:place<=1048576)(hl:∀i,l i<=1048576)(hpl:∀i,i<m->l i=1\/place<l i)(w:World)(hL:Lsts .u32 w (some ⟨b,o,none⟩) m P l c X):
 Calls prog 148 #[.int .i64 place,.slice (some ⟨b,o,none⟩) m cq] w fun e w'=>e=.returned (.agg #[.int .u32 (elAt l X m place 0),.int .u32 (elAt l X m place 1),.int .u32 (elAt l X m place 2)])/\Below w.heap.size w w':=by
 have HL:Hid (Lsts .u32 w (some ⟨b,o,none⟩) m P l c X/\(∀i,l i<=1048576)/\∀i,i<m->l i=1\/place<l i):=⟨hL,hl,hpl⟩
 obtain⟨E,HE⟩:∃E:Nat->Int,Hid (E=elAt l X m place):=⟨_,rfl⟩
 have HE0:=HE.out;rw[←HE0];have T:=Zaqc w 216;have HT:Hid (((w.alloc (.cells #[.int .u32 0,.int .u32 0,.int .u32 0] 216)).alloc (.cells #[.int .u32 0,.int .u32 0,.int .u32 0] 216)).rowIs (w.heap.size+1) 216 3 (fun _=>.int .u32 0)/\((w.alloc (.cells #[.int .u32 0,.int .u32 0,.int .u32 0] 216)).alloc (.cells #[.int .u32 0,.int .u32 0,.int .u32 0] 216)).rowIs w.heap.size 216 3 (fun _=>.int .u32 0)):=T;clear hL hl hpl HE0 T;go_enter func148,ntmps148;go_wp2
 go_loopw [10] (fun iv wr=>Below w.heap.size w wr/\∃j:Nat,j<=m/\iv=.int .i64 j/\Hid (wr.rowIs (w.heap.size+1) 216 3 (fun i=>.int .u32 (if i<j then E i else 0))/\wr.rowIs w.heap.size 216 3 (fun _=>.int .u32 0))) (fun iv _=>m-(intOf iv).toNat)
 case atStart=>exact⟨gG,0,Nat.zero_le _,rfl,HT.out.1.congr fun i hi=>by simp,HT.out.2⟩
 case round=>
  obtain⟨hb,j,hj,rfl,hrow⟩:=hrel;clear HT;by_cases hlt:j<m
  ·have h1:wr.cell? ⟨b,o+j,none⟩=some (.slice (P j) (l j) (c j)):=by
    rcases HL.out.1.heads with q|⟨b',o',e,hh⟩
    ·omega
    ·cases e;exact(hb.cell (Zkj (hh j hlt))).trans (hh j hlt)
   have hpj:=HL.out.2.2 j hlt;have hlj:=HL.out.2.1 j;have HEj:E j=X j (if l j=1 then 0 else place):=by rw[HE.out];unfold elAt;rw[if_pos hlt]
   have hR:=(HL.out.1.parts j hlt).below hb;obtain⟨L,hL0⟩:∃L,L=l j:=⟨_,rfl⟩
   rw[←hL0]at h1 hpj hlj HEj hR;clear hL0;rcases hR with hR|⟨b2,o2,hP,hR⟩
   ·omega
   rw[hP]at h1;clear hP;have c1:=hrow.out.1.cell (i:=j) oM;have f1:=hrow.out.1.frozen j;have i1:(0:Int)<=(j:Int):=oM;have i2:(j:Int)<(m:Int):=oM;have i3:(j:Int)<3:=oM;have j3:j<3:=oM;have HR:Hid (∀x,(wr.setCell ⟨w.heap.size+1,j,none⟩ x).rowIs (w.heap.size+1) 216 3 (fun k=>if k=j then x else .int .u32 (if k<j then E k else 0))/\(wr.setCell ⟨w.heap.size+1,j,none⟩ x).rowIs w.heap.size 216 3 (fun _=>.int .u32 0)):=fun x=>⟨hrow.out.1.set j x,hrow.out.2.setOther sM x⟩
   by_cases hL1:L=1
   ·have h2:wr.cell? ⟨b2,o2,none⟩=some (.int .u32 (E j)):=by have:=hR 0 oM;rw[Nat.add_zero]at this;rw[this,HEj,if_pos hL1]
    subst hL1;exact Zeh
   ·have h2:wr.cell? ⟨b2,o2+place,none⟩=some (.int .u32 (E j)):=by have:=hR place oM;rw[this,HEj,if_neg hL1]
    have c9:¬ ((L:Int)=1):=oM;have i4:(0:Int)<=(place:Int):=oM;have i5:(place:Int)<(L:Int):=oM;exact Zeh
  ·have:j=m:=oM;subst this;have e0:∀k,k<3->(if k<j then E k else 0)=E k:=by
    intro k hk;by_cases q:k<j
    ·rw[if_pos q]
    ·rw[if_neg q,HE.out];unfold elAt;rw[if_neg q]
   have r1:=hrow.out.1.congr (g:=fun i=>.int .u32 (E i)) (fun i hi=>by rw[e0 i hi]);have c0:=r1.cell (i:=0) oM;have c1:=r1.cell (i:=1) oM;have c2:=r1.cell (i:=2) oM;have r0:=hrow.out.2;have d0:=r0.cell (i:=0) oM;have d1:=r0.cell (i:=1) oM;have d2:=r0.cell (i:=2) oM;have f0:=r0.frozen 0;have f1:=r0.frozen 1;have f2:=r0.frozen 2;have r3:=((r0.set 0 (.int .u32 (E 0))).set 1 (.int .u32 (E 1))).set 2 (.int .u32 (E 2));have g0:=r3.cell (i:=0) oM;have g1:=r3.cell (i:=1) oM;have g2:=r3.cell (i:=2) oM;simp only[Nat.reduceEqDiff,if_true,if_false]at g0 g1 g2;clear r1 r0 r3 e0 hrow;go_wp2;refine bodyPost_ret (by simp[results,results148,go_sem, *];try rfl) rfl ?_;exact⟨rfl,((hb.setCell (Nat.le_refl _) _).setCell (Nat.le_refl _) _).setCell (Nat.le_refl _) _⟩

end Go.Proofs.YtbinohkcolcbfaaGreat
set_option maxRecDepth 100000
set_option maxHeartbeats 16000000
namespace Go.Proofs.YtbinohkcolcbfaaGreat
open Go.RowKit Go.Shelf Go.Proofs.Tryz
set_option linter.unusedVariables false
def lenRen:Go.Shelf.Ren:=⟨fun|125=>138|128=>160|129=>161|n=>n,fun|3=>3|4=>4|5=>5|9=>9|46=>192|51=>42|53=>191|n=>n,fun n=>n⟩
theorem Zaoz:Lays.n125 prog lenRen where
 mixed:=kR
 f125:=func138.trans (congrArg some kR)
 f128:=func160.trans (congrArg some kR)
 f129:=func161.trans (congrArg some kR)
 t3:=underlying3
 a3:=Tryz.isAgg3
 z3:=Tryz.sizeOf3
 v3:=Tryz.zeroValue3
 t4:=underlying4
 a4:=Tryz.isAgg4
 z4:=Tryz.sizeOf4
 v4:=Tryz.zeroValue4
 t5:=underlying5
 a5:=Tryz.isAgg5
 z5:=Tryz.sizeOf5
 v5:=Tryz.zeroValue5
 t9:=underlying9
 a9:=Tryz.isAgg9
 z9:=Tryz.sizeOf9
 v9:=Tryz.zeroValue9
 t46:=underlying192
 a46:=Tryz.isAgg192
 z46:=Tryz.sizeOf192
 v46:=Tryz.zeroValue192
 t51:=underlying42
 a51:=Tryz.isAgg42
 z51:=Tryz.sizeOf42
 v51:=Tryz.zeroValue42
 t53:=underlying191
 a53:=Tryz.isAgg191
 z53:=Tryz.sizeOf191
 v53:=Tryz.zeroValue191
theorem Zadc:∀f x:Nat,x<2^f->Lib.bitLenAux f x=blen x
 |0,x,h=>by
  have:x=0:=by simpa using h
  subst this;rfl
 |f+1,x,h=>by
  unfold Lib.bitLenAux;by_cases c:x=0
  ·rw[if_pos c,c];rfl
  ·rw[if_neg c,Zadc f (x/2) (by rw[Nat.pow_succ]at h;omega),Zyu x c];omega
theorem len_any(x:Int)(h0:0<=x)(h1:x<=18446744073709551615)(w:World):
 Calls prog 138 #[.int .u64 x] w fun e w'=>e=.returned (.int .i64 (blen x.toNat))/\w'=w:=by
 have h:=Any.bits_Len Zaoz x w h0 h1;have e:Lib.bitLen x.toNat=blen x.toNat:=by
  unfold Lib.bitLen;exact Zadc 64 _ (by have:(2:Nat)^64=18446744073709551616:=rfl;omega)
 rw[e]at h;exact h
end Go.Proofs.YtbinohkcolcbfaaGreat
namespace Go.Proofs.YtbinohkcolcbfaaGreat
open Go.RowKit Go.Proofs.Tryz
set_option linter.unusedVariables false
set_option linter.unusedSimpArgs false
set_option maxRecDepth 100000
set_option maxHeartbeats 16000000
def fpw(x n:Int):Nat->Int->Int
 |0,r=>r
 |k+1,r=>fpw x n k (if n/2^k%2=1 then fmul (fmul r r) x else fmul r r)
def fpow(x n:Int):Int:=if n<1 then 1065353216 else fpw x n (blen n.toNat-1) (canon x)
theorem Zacn(x n:Int):∀ (k:Nat) (r:Int),0<=r->r<4294967296->0<=fpw x n k r/\fpw x n k r<4294967296
 |0,r,h0,h1=>⟨h0,h1⟩
 |k+1,r,h0,h1=>by
  unfold fpw;split
  ·exact Zacn x n k _ (Znd _ _).1 (Znd _ _).2
  ·exact Zacn x n k _ (Znd _ _).1 (Znd _ _).2
theorem fpow_lo(x n:Int)(h0:0<=x)(h1:x<4294967296):0<=fpow x n/\fpow x n<4294967296:=by
 unfold fpow;split
 ·decide
 ·exact Zacn x n _ _ (Zno x h0 h1).1 (Zno x h0 h1).2
theorem Zafh(n:Int)(h0:0<=n)(h1:n<=9223372036854775807)(i:Nat):bits .and .i64 (n/2^i) 1=n/2^i%2:=by
 have e:n/2^i=((n.toNat/2^i:Nat):Int):=by
  rw[Int.natCast_ediv,Int.natCast_pow,Int.toNat_of_nonneg h0];rfl
 have hle:n.toNat/2^i<=n.toNat:=Nat.div_le_self ..;rw[e];generalize n.toNat/2^i=q at *;have hx:q&&& 1=q%2:=Nat.and_one_is_mod q;show IntKind.i64.wrap ((BitVec.ofInt 64 (q:Int)&&& BitVec.ofInt 64 ((1:Nat):Int)).toNat:Int)=_;rw[BitVec.toNat_and,ofInt_u64 q oM,ofInt_u64 1 dE,hx,IntKind.wrap_i64];omega
theorem pow_any(x:Int)(h0:0<=x)(h1:x<4294967296)(n:Int)(n0: -9223372036854775808<=n)(n1:n<=9223372036854775807)(w:World):
 Calls prog 109 #[.int .u32 x,.int .i64 n] w fun e w'=>e=.returned (.int .u32 (fpow x n))/\Below w.heap.size w w':=by
 unfold fpow;by_cases c:n<1
 ·rw[if_pos c];go_enter func109,ntmps109;go_wp2;go_ret;exact⟨rfl,Zkp _⟩
 ·rw[if_neg c];have hc:=Zno x h0 h1;have hc':0<=canon x/\canon x<4294967296:=hc;clear hc;have hB:1<=blen n.toNat/\blen n.toNat<=63:=by
   exact Zfd
  generalize hBB:blen n.toNat=B at *;generalize hP:fpw x n (B-1) (canon x)=P at *;have HP:Hid (fpw x n (B-1) (canon x)=P):=hP;clear hP;go_enter func109,ntmps109;go_wp2_with(first
   |(go_at_call 101;refine(Zmg _ oM oM _).mono ?_;rintro e w' ⟨rfl,hw'⟩;obtain rfl:=hw'.symm)
   |(go_at_call 138;refine(len_any _ oM oM _).mono ?_;rintro e w' ⟨rfl,hw'⟩;obtain rfl:=hw'.symm))
  go_loopw [5,6] (fun rv pv wr=>Below w.heap.size w wr/\∃ (j:Nat) (r:Int),j<=62/\rv=.int .u32 r/\pv=.int .i64 ((j:Int)-1)/\0<=r/\r<4294967296/\fpw x n j r=P) (fun _ pv _=>(intOf pv+1).toNat)
  case atStart=>exact⟨Zkp _,B-1,canon x,oM,rfl,by rw[show((B-1:Nat):Int)-1=(B:Int)-2 by omega],hc'.1,hc'.2,HP.out⟩
  case round=>
   obtain⟨hbel,j,r,hj,rfl,rfl,r0,r1,hr⟩:=hrel;have HR:Hid (fpw x n j r=P):=hr;clear hr;rcases Nat.eq_zero_or_pos j with hz|hz
   ·subst hz;have hPr:r=P:=HR.out;subst hPr;clear HR HP;go_wp2;go_ret;exact⟨rfl,hbel⟩
   ·obtain⟨i,rfl⟩:∃i,j=i+1:=⟨j-1,oM⟩
    rw[show((i+1:Nat):Int)-1=(i:Int) by omega];have hbit:=Zafh n oM n1 i;have l1:=Znd r r;have l2:=Znd (fmul r r) x;by_cases cb:n/2^i%2=1
    ·go_wp2_with(go_at_call 139;refine(Zxr _ oM oM _ oM oM _).mono ?_;rintro e w2 ⟨rfl,hb2⟩);exact Zdp
    ·go_wp2_with(go_at_call 139;refine(Zxr _ oM oM _ oM oM _).mono ?_;rintro e w2 ⟨rfl,hb2⟩);exact Zdq
theorem Zaqd(x:Int)(h0:0<=x)(h1:x<4294967296)(n:Int)(n0: -9223372036854775808<=n)(n1:n<=9223372036854775807)(w:World):
 Calls prog 79 #[.int .i64 x,.int .i64 n] w fun e w'=>e=.returned (.int .i64 (fpow x n))/\Below w.heap.size w w':=by
 unfold fpow;by_cases c:n<1
 ·rw[if_pos c];go_enter func79,ntmps79;go_wp2;go_ret;exact⟨rfl,Zkp _⟩
 ·rw[if_neg c];have hc:=Zno x h0 h1;have hc':0<=canon x/\canon x<4294967296:=hc;clear hc;have hB:1<=blen n.toNat/\blen n.toNat<=63:=by
   exact Zfd
  generalize hBB:blen n.toNat=B at *;generalize hP:fpw x n (B-1) (canon x)=P at *;have HP:Hid (fpw x n (B-1) (canon x)=P):=hP;clear hP;go_enter func79,ntmps79;go_wp2_with(first
   |(go_at_call 103;refine(Zrl _ oM oM _).mono ?_;rintro e w1 ⟨rfl,hb1⟩)
   |(go_at_call 122;refine(Zqr _ oM oM _).mono ?_;rintro e w' ⟨rfl,hw'⟩;obtain rfl:=hw'.symm))
  go_loopw [5,6] (fun rv pv wr=>Below w.heap.size w wr/\∃ (j:Nat) (r:Int),j<=62/\rv=.int .i64 r/\pv=.int .i64 ((j:Int)-1)/\0<=r/\r<4294967296/\fpw x n j r=P) (fun _ pv _=>(intOf pv+1).toNat)
  case atStart=>exact⟨hb1,B-1,canon x,oM,rfl,by rw[show((B-1:Nat):Int)-1=(B:Int)-2 by omega],hc'.1,hc'.2,HP.out⟩
  case round=>
   obtain⟨hbel,j,r,hj,rfl,rfl,r0,r1,hr⟩:=hrel;have HR:Hid (fpw x n j r=P):=hr;clear hr;rcases Nat.eq_zero_or_pos j with hz|hz
   ·subst hz;have hPr:r=P:=HR.out;subst hPr;clear HR HP;go_wp2;go_ret;exact⟨rfl,hbel⟩
   ·obtain⟨i,rfl⟩:∃i,j=i+1:=⟨j-1,oM⟩
    rw[show((i+1:Nat):Int)-1=(i:Int) by omega];have hbit:=Zafh n oM n1 i;have l1:=Znd r r;have l2:=Znd (fmul r r) x;by_cases cb:n/2^i%2=1
    ·go_wp2_with(go_at_call 123;refine(Zva _ oM oM _ oM oM _).mono ?_;rintro e w2 ⟨rfl,hb2⟩);exact Zdp
    ·go_wp2_with(go_at_call 123;refine(Zva _ oM oM _ oM oM _).mono ?_;rintro e w2 ⟨rfl,hb2⟩);exact Zdq
structure Hd where
 pats:List Int
 whole:Int
structure Fr where
 nums:Nat->Int
 whs:Nat->Int
 vecs:Nat->List Int
 slots:List Hd
 outs:Nat->Nat->Int
def putN{α:Type}(f:Nat->α)(k:Nat)(x:α):Nat->α:=fun j=>if j=k then x else f j
theorem Zmn{α:Type}(f:Nat->α)(k:Nat)(x:α):putN f k x k=x:=if_pos rfl
theorem Zml{α:Type}(f:Nat->α){k j:Nat}(x:α)(h:j≠k):putN f k x j=f j:=if_neg h
theorem Zlh{α:Type}{Q:α->Prop}{f:Nat->α}{k:Nat}{x:α}(h:∀j,Q (f j))(hx:Q x)(j:Nat):Q (putN f k x j):=by
 unfold putN;split
 ·exact hx
 ·exact h j
def lenOf(c:Cd)(p:Int):Nat:=((c.sign[p.toNat]?).map fun q=>q.len.toNat).getD 0
def Zia(c:Cd)(p:Int):Nat:=if Zkv c.sign p=2 then 2 else 1
def Zhy(c:Cd)(t:Ty):Nat:=if t.kind=3 then lenOf c t.par else if t.kind=1 then 1 else 0
def Zkf(c:Cd)(t:Ty)(a:Int):List Int:=List.replicate (Zhy c t) (canon a)
def Ziy(c:Cd)(s:Sl):Hd:=⟨Zkf c s.ty s.bits,s.int_⟩
def rdP(c:Cd)(f:Fr)(r:Int):Hd:=
 if(regT c.regs r).kind=1 then⟨[f.nums r.toNat],0⟩else if(regT c.regs r).kind=2 then⟨[],f.whs r.toNat⟩else⟨f.vecs r.toNat,0⟩
def stP(c:Cd)(f:Fr)(r:Int)(h:Hd):Fr:=
 if(regT c.regs r).kind=1 then{f with nums:=putN f.nums r.toNat (h.pats.headD 0)}
 else if(regT c.regs r).kind=2 then{f with whs:=putN f.whs r.toNat h.whole}
 else{f with vecs:=putN f.vecs r.toNat h.pats}
def atL(l:List Int)(j:Nat):Int:=(l[j]?).getD 0
def Zkt(vs:List (List Int))(p:Nat):List Int:=(vs[p]?).getD []
def Zir(c:Cd)(vs:List (List Int))(i:Ins):List Int:=
 (List.range (lenOf c (regT c.regs i.d).par)).map fun e=>canon (atL (Zkt vs (regT c.regs i.d).par.toNat) (Zia c (regT c.regs i.d).par*e+i.n.toNat))
def outP(o:Nat->Nat->Int)(p k n:Nat)(l:List Int):Nat->Nat->Int:=
 fun q j=>if q=p/\j%k=n/\j/k<l.length then atL l (j/k)else o q j
def lF(args:List (List Int))(i:Nat):Nat:=(Zkt args i).length
def xF(args:List (List Int))(i j:Nat):Int:=atL (Zkt args i) j
def appP(op:Int)(args:List (List Int)):List Int:=
 match shpV (lF args) (args.length-1)with
 |some n=>(List.range n).map fun i=>opf op (elAt (lF args) (xF args) args.length i 0) (elAt (lF args) (xF args) args.length i 1) (elAt (lF args) (xF args) args.length i 2)
 |none=>[]
def Zji(c:Cd)(f:Fr)(i:Ins):List (List Int):=(Zid i (rowP i.op)).map fun r=>(rdP c f r).pats
def Zll(c:Cd)(f:Fr)(i:Ins):Fr:=
 if(regT c.regs i.d).kind=2 then{f with whs:=putN f.whs i.d.toNat (f.whs i.a.toNat)}
 else stP c f i.d ⟨if(appP i.op (Zji c f i)).length<Zhy c (regT c.regs i.d)then Zkf c (regT c.regs i.d) ((appP i.op (Zji c f i)).headD 0)else appP i.op (Zji c f i),0⟩
def numI(f:Fr)(i:Ins):Int:=
 if i.op=16 then fpow (f.nums i.a.toNat) (f.whs i.b.toNat)else if i.op=17 then Zne (f.whs i.a.toNat)
 else if i.op=19 then fsum (atL (f.vecs i.a.toNat)) (f.vecs i.a.toNat).length else if i.op=20 then Zmh (atL (f.vecs i.a.toNat)) (f.vecs i.a.toNat).length else i.bits
def Zja(b:Bool):Int:=if b then 1 else 0
def Zmt(f:Fr)(i:Ins):Int:=
 if i.op=18 then Zja (fsel (f.nums i.a.toNat) 1065353216 0==1065353216)
 else if i.op=21 then min (f.whs i.a.toNat) 2147483646+1
 else if i.op=22 then Zja (decide (f.whs i.a.toNat<f.whs i.b.toNat))
 else if i.op=23 then Zja (f.whs i.a.toNat==f.whs i.b.toNat)
 else if i.op=24 then Zja (f.whs i.a.toNat != 0&&f.whs i.b.toNat != 0)
 else if i.op=25 then Zja (f.whs i.a.toNat==0)
 else if i.op=26 then(if f.whs i.a.toNat=0 then f.whs i.c.toNat else f.whs i.b.toNat)
 else if i.op=27 then max (f.whs i.a.toNat-f.whs i.b.toNat) 0
 else if i.op=28 then(if f.whs i.b.toNat=0 then 0 else f.whs i.a.toNat/f.whs i.b.toNat)
 else i.n
def Zlx(op:Int):Bool:=op==1||op==16||op==17||op==19||op==20
def Zjv(op:Int):Bool:=op==2||op==18||(decide (21<=op)&&decide (op<=28))
def doI(c:Cd)(G P:List (List Int))(f:Fr)(i:Ins):Fr:=
 if Zlx i.op then{f with nums:=putN f.nums i.d.toNat (numI f i)}
 else if Zjv i.op then{f with whs:=putN f.whs i.d.toNat (Zmt f i)}
 else if i.op=29 then{f with vecs:=putN f.vecs i.d.toNat (Zir c G i)}
 else if i.op=30 then{f with vecs:=putN f.vecs i.d.toNat (Zir c P i)}
 else if i.op=31 then{f with outs:=outP f.outs (regT c.regs i.a).par.toNat (Zia c (regT c.regs i.a).par) i.n.toNat (f.vecs i.a.toNat)}
 else if i.op=32 then stP c f i.d ((f.slots[i.n.toNat]?).getD ⟨[],0⟩)
 else if i.op=33 then{f with slots:=f.slots.set i.n.toNat (rdP c f i.a)}
 else if 34<=i.op/\i.op<=37 then f
 else Zll c f i
def Zjn(c:Cd)(G P:List (List Int))(s:Fr×Nat)(i:Ins):Fr×Nat:=
 if 0<s.2/\i.op=35 then(s.1,s.2-1)
 else if i.op=34/\(0<s.2\/s.1.whs i.a.toNat=0)then(s.1,s.2+1)
 else if s.2=0 then(doI c G P s.1 i,0)else s
def goI(c:Cd)(G P:List (List Int))(s:Fr×Nat)(l:List Ins):Fr×Nat:=l.foldl (Zjn c G P) s
def Zjm(c:Cd):List Hd:=c.slots.map (Ziy c)
def numL(p:Par):Nat:=(numP p).toNat
def updP(c:Cd)(f:Fr):List (List Int):=(List.range c.sign.length).map fun p=>(List.range ((c.sign[p]?).elim 0 numL)).map (f.outs p)
def Zly(c:Cd)(G P:List (List Int)):Bool:=Zin c.sign (G.map (·.length))&&Zin c.sign (P.map (·.length))
end Go.Proofs.YtbinohkcolcbfaaGreat
set_option maxRecDepth 100000
set_option maxHeartbeats 16000000
namespace Go.Proofs.YtbinohkcolcbfaaGreat
open Go.RowKit Go.Proofs.Tryz
set_option linter.unusedVariables false
set_option linter.unusedSimpArgs false
structure Un(U:Nat->Prop)(w w':World):Prop where
 os:w'.os=w.os
 tape:w'.tape=w.tape
 output:w'.output=w.output
 size:w.heap.size<=w'.heap.size
 block:∀b,b<w.heap.size->¬U b->w'.heap[b]? =w.heap[b]?
section
variable {U T : Nat -> Prop} {w w' w'' : World}
theorem Un.refl(U:Nat->Prop)(w:World):Un U w w:=⟨rfl,rfl,rfl,Nat.le_refl _,fun _ _ _=>rfl⟩
theorem Un.trans(h:Un U w w')(k:Un U w' w''):Un U w w'':=
 ⟨k.os.trans h.os,k.tape.trans h.tape,k.output.trans h.output,Nat.le_trans h.size k.size,fun b hb hu=>(k.block b (Nat.lt_of_lt_of_le hb h.size) hu).trans (h.block b hb hu)⟩
theorem Un.of(h:Below w.heap.size w w'):Un U w w':=⟨h.os,h.tape,h.output,h.size,fun b hb _=>h.block b hb⟩
theorem Un.mono(h:Un U w w')(k:∀b,U b->T b):Un T w w':=⟨h.os,h.tape,h.output,h.size,fun b hb hu=>h.block b hb fun q=>hu (k b q)⟩
theorem Un.on(h:Un U w w')(k:Below w'.heap.size w' w''):Un U w w'':=h.trans (Un.of k)
theorem Un.below{B:Nat}(h:Un U w w')(hB:B<=w.heap.size)(k:∀b,U b->B<=b):Below B w w':=
 ⟨h.os,h.tape,h.output,h.size,fun b hb=>h.block b oM fun q=>by have:=k b q;omega⟩
theorem Un.setCell(h:Un U w w'){p:Addr}(hp:U p.block)(x:Value):Un U w (w'.setCell p x):=
 ⟨h.os,h.tape,h.output,by simpa[World.setCell]using h.size,fun b hb hu=>by
  have hne:b≠p.block:=fun e=>hu (by rw[e];exact hp)
  rw[Below.heap_setCell _ _ _ _ (by exact hne)];exact h.block b hb hu⟩
theorem Un.grown(h:Un U w w'){b:Nat}(hb:U b)(g:w'.grownBy w'' (some b)):Un U w w'':=by
 have k:Below w'.heap.size w' w':=Below.refl _ _;refine h.trans ⟨g.os,g.tape,g.output,g.size,fun j hj hu=>g.block j hj (fun e=>?_)⟩;cases e;exact hu hb
end
def RowT{α:Type}(T:Nat->Prop)(k:Nat)(f:α->List Value)(w:World)(v:Value)(l:List α):Prop:=
 ∃p c,v=.slice p l.length c/\(l=[]\/∃b o,p=some ⟨b,o,none⟩/\¬T b/\b<w.heap.size/\∀i (h:i<l.length),Zhw w b (o+i*k) (f l[i]))
section
variable {α : Type} {T U : Nat -> Prop} {k : Nat} {f : α -> List Value} {w w' : World} {v : Value} {l : List α}
theorem RowT.row(h:RowT T k f w v l):RowG k f w v l:=by
 obtain⟨p,c,hv,h⟩:=h;exact⟨p,c,hv,h.imp id fun⟨b,o,hp,_,_,h⟩=>⟨b,o,hp,h⟩⟩
theorem RowT.un(h:RowT T k f w v l)(q:Un U w w')(hu:∀b,b<w.heap.size->U b->T b):RowT T k f w' v l:=by
 obtain⟨p,c,hv,h⟩:=h;exact⟨p,c,hv,h.imp id fun⟨b,o,hp,ht,hb,h⟩=>⟨b,o,hp,ht,Nat.lt_of_lt_of_le hb q.size,fun i hi=>(h i hi).of_block (q.block b hb fun e=>ht (hu b hb e))⟩⟩
theorem RowT.below(h:RowT T k f w v l)(q:Below w.heap.size w w'):RowT T k f w' v l:=h.un (U:=fun _=>False) (Un.of q) (fun _ _ e=>e.elim)
theorem RowT.mono(h:RowT T k f w v l)(hu:∀b,b<w.heap.size->U b->T b):RowT U k f w v l:=by
 obtain⟨p,c,hv,h⟩:=h;exact⟨p,c,hv,h.imp id fun⟨b,o,hp,ht,hb,h⟩=>⟨b,o,hp,fun e=>ht (hu b hb e),hb,h⟩⟩
end
def ptC(x:Int):List Value:=[.int .u32 x]
abbrev Pt(T:Nat->Prop)(w:World)(v:Value)(l:List Int):Prop:=RowT T 1 ptC w v l
theorem Pt.nil(T:Nat->Prop)(w:World)(p:Option Addr)(c:Nat):Pt T w (.slice p 0 c) []:=⟨p,c,rfl,.inl rfl⟩
theorem Pt.reads{T:Nat->Prop}{w:World}{p:Option Addr}{n c:Nat}{l:List Int}(h:Pt T w (.slice p n c) l):n=l.length/\Zio w p n (fun j=>.int .u32 (atL l j)):=by
 obtain⟨p',c',hv,h⟩:=h;simp only[Value.slice.injEq]at hv;obtain⟨rfl,rfl,rfl⟩:=hv;refine⟨rfl,?_⟩;rcases h with h|⟨b,o,hp,_,_,h⟩
 ·exact .inl (by rw[h];rfl)
 ·refine .inr ⟨b,o,hp,fun i hi=>?_⟩;have:=(h i hi).at 0 (v:=.int .u32 l[i]) rfl;rw[Nat.mul_one,Nat.add_zero]at this;rw[this];simp[atL,List.getElem?_eq_getElem hi]
theorem Pt.len{T:Nat->Prop}{w:World}{v:Value}{l:List Int}(h:Pt T w v l):∃p c,v=.slice p l.length c:=by
 obtain⟨p,c,hv,_⟩:=h;exact⟨p,c,hv⟩
theorem Pt.of_row{T:Nat->Prop}{w:World}{g:Nat}{t:TypeId}{n:Nat}{X:Nat->Int}{l:List Int}(h:w.rowIs g t n (fun j=>.int .u32 (X j)))(ht:¬T g)(hl:l.length=n)(hx:∀j,j<n->atL l j=X j)(c:Nat):Pt T w (.slice (some ⟨g,0,none⟩) n c) l:=by
 refine⟨_,c,by rw[hl],.inr ⟨g,0,rfl,ht,h.lt,fun i hi j hj=>?_⟩⟩;have hj0:j=0:=by have:j<1:=hj;omega
 subst hj0;have:=h.cell (i:=i) oM;rw[←hx i oM]at this;simp only[Nat.zero_add,Nat.mul_one,Nat.add_zero,ptC,List.getElem_cons_zero];rw[this];simp[atL,List.getElem?_eq_getElem hi]
def VsT(T:Nat->Prop)(w:World)(v:Value)(L:List (List Int)):Prop:=
 ∃p c,v=.slice p L.length c/\(L=[]\/∃b o,p=some ⟨b,o,none⟩/\¬T b/\b<w.heap.size/\∀i (h:i<L.length),∃u,w.cell? ⟨b,o+i,none⟩=some u/\Pt T w u L[i])
theorem VsT.un{T U:Nat->Prop}{w w':World}{v:Value}{L:List (List Int)}(h:VsT T w v L)(q:Un U w w')(hu:∀b,b<w.heap.size->U b->T b):VsT T w' v L:=by
 obtain⟨p,c,hv,h⟩:=h;refine⟨p,c,hv,h.imp id fun⟨b,o,hp,ht,hb,h⟩=>⟨b,o,hp,ht,Nat.lt_of_lt_of_le hb q.size,fun i hi=>?_⟩⟩;obtain⟨u,h1,h2⟩:=h i hi;exact⟨u,(World.cell?_of_block (q.block b hb fun e=>ht (hu b hb e))).trans h1,h2.un q hu⟩
theorem VsT.below{T:Nat->Prop}{w w':World}{v:Value}{L:List (List Int)}(h:VsT T w v L)(q:Below w.heap.size w w'):VsT T w' v L:=h.un (U:=fun _=>False) (Un.of q) (fun _ _ e=>e.elim)
theorem VsT.mono{T U:Nat->Prop}{w:World}{v:Value}{L:List (List Int)}(h:VsT T w v L)(hu:∀b,b<w.heap.size->U b->T b):VsT U w v L:=by
 obtain⟨p,c,hv,h⟩:=h;refine⟨p,c,hv,h.imp id fun⟨b,o,hp,ht,hb,h⟩=>⟨b,o,hp,fun e=>ht (hu b hb e),hb,fun i hi=>?_⟩⟩;obtain⟨u,h1,h2⟩:=h i hi;exact⟨u,h1,h2.mono hu⟩
structure Lay where
 C:Nat
 S:Nat
 FR:Nat
 NB:Nat
 WB:Nat
 MB:Nat
 UB:Nat
 K:Nat
 ub:Nat->Nat
 sp:Option Addr
 sc:Nat
 v0:Value
 v1:Value
 v2:Value
 v3:Value
 gv:Value
 pv:Value
structure CdT(T:Nat->Prop)(w:World)(a:Lay)(c:Cd):Prop where
 hC:¬T a.C
 ltC:a.C<w.heap.size
 cells:Zhw w a.C 0 [a.v0,a.v1,a.v2,a.v3]
 sign:RowT T 3 Zjc w a.v0 c.sign
 regs:RowT T 2 tyC w a.v1 c.regs
 slots:RowT T 5 slC w a.v2 c.slots
 list:RowT T 7 inC w a.v3 c.list
theorem CdT.un{T U:Nat->Prop}{w w':World}{a:Lay}{c:Cd}(h:CdT T w a c)(q:Un U w w')(hu:∀b,b<w.heap.size->U b->T b):CdT T w' a c:=
 ⟨h.hC,Nat.lt_of_lt_of_le h.ltC q.size,h.cells.of_block (q.block _ h.ltC fun e=>h.hC (hu _ h.ltC e)),h.sign.un q hu,h.regs.un q hu,h.slots.un q hu,h.list.un q hu⟩
theorem CdT.below{T:Nat->Prop}{w w':World}{a:Lay}{c:Cd}(h:CdT T w a c)(q:Below w.heap.size w w'):CdT T w' a c:=h.un (U:=fun _=>False) (Un.of q) (fun _ _ e=>e.elim)
theorem CdT.mono{T U:Nat->Prop}{w:World}{a:Lay}{c:Cd}(h:CdT T w a c)(hu:∀b,b<w.heap.size->U b->T b):CdT U w a c:=
 ⟨fun e=>h.hC (hu _ h.ltC e),h.ltC,h.cells,h.sign.mono hu,h.regs.mono hu,h.slots.mono hu,h.list.mono hu⟩
structure SlT(T:Nat->Prop)(w:World)(a:Lay)(X:Nat->Value)(l:List Hd):Prop where
 row:w.rowIs a.S 78 (2*a.K) X
 sp:l=[]\/a.sp=some ⟨a.S,0,none⟩
 le:l.length<=a.K
 whole:∀j (h:j<l.length),X (2*j+1)=.int .i64 l[j].whole
 pats:∀j (h:j<l.length),Pt T w (X (2*j)) l[j].pats
theorem SlT.un{T U:Nat->Prop}{w w':World}{a:Lay}{X:Nat->Value}{l:List Hd}(h:SlT T w a X l)(q:Un U w w')(hS:¬U a.S)(hu:∀b,b<w.heap.size->U b->T b):SlT T w' a X l:=
 ⟨h.row.of_block (q.block _ h.row.lt hS),h.sp,h.le,h.whole,fun j hj=>(h.pats j hj).un q hu⟩
theorem SlT.below{T:Nat->Prop}{w w':World}{a:Lay}{X:Nat->Value}{l:List Hd}(h:SlT T w a X l)(q:Below w.heap.size w w'):SlT T w' a X l:=h.un (U:=fun _=>False) (Un.of q) (fun e=>e) (fun _ _ e=>e.elim)
theorem SlT.mono{T U:Nat->Prop}{w:World}{a:Lay}{X:Nat->Value}{l:List Hd}(h:SlT T w a X l)(hu:∀b,b<w.heap.size->U b->T b):SlT U w a X l:=
 ⟨h.row,h.sp,h.le,h.whole,fun j hj=>(h.pats j hj).mono hu⟩
end Go.Proofs.YtbinohkcolcbfaaGreat
namespace Go.Proofs.YtbinohkcolcbfaaGreat
open Go.RowKit Go.Proofs.Tryz
set_option linter.unusedVariables false
set_option linter.unusedSimpArgs false
set_option maxRecDepth 100000
set_option maxHeartbeats 16000000
theorem Zvq(b:Bool)(w:World):Calls prog 113 #[.bool b] w fun e w'=>e=.returned (.int .i64 (Zja b))/\w'=w:=by
 cases b<;>(go_enter func113,ntmps113;go_wp2;go_ret;exact⟨rfl,rfl⟩)
theorem Zamw(a:Int)(ha:IsP a)(w:World):Calls prog 114 #[.int .u32 a] w fun e w'=>e=.returned (.bool (fsel a 1065353216 0==1065353216))/\w'=w:=by
 go_enter func114,ntmps114;go_wp2_with(go_at_call 144;refine(Zwp _ ha.1 ha.2 _ dE dE _ dE dE _).mono ?_;rintro e w1 ⟨rfl,hw'⟩;obtain rfl:=hw'.symm);go_ret;exact⟨rfl,rfl⟩
theorem Zaix(a b c:Int)(w:World):Calls prog 115 #[.int .i64 a,.int .i64 b,.int .i64 c] w fun e w'=>e=.returned (.int .i64 (if a=0 then c else b))/\w'=w:=by
 by_cases h:a=0
 ·subst h;go_enter func115,ntmps115;go_wp2;go_ret;exact⟨rfl,rfl⟩
 ·have h1:(a != 0)=true:=by simpa using h
  have h2:(a==0)=false:=by simpa using h
  rw[if_neg h];go_enter func115,ntmps115;go_wp2;go_ret;exact⟨rfl,rfl⟩
theorem Zyg{T:Nat->Prop}(a:Lay)(c:Cd)(t:Ty)(w:World)(hc:CdT T w a c)(ht:t.kind=3->isPl t.par c.sign.length=true)(hl:∀p∈c.sign,0<=p.len):
 Calls prog 59 #[.pointer (some ⟨a.C,0,none⟩),tyV t] w fun e w'=>e=.returned (.int .i64 (Zhy c t))/\Below w.heap.size w w':=by
 obtain⟨k,p⟩:=t;unfold tyV Zhy;simp only at ht ⊢;have c0:=hc.cells.at 0 (v:=a.v0) rfl;by_cases h3:k=3
 ·subst h3;obtain⟨h0,h1⟩:=Zlf.1 (ht rfl);obtain⟨j,rfl⟩:∃j:Nat,p=(j:Int):=⟨p.toNat,oM⟩
  obtain⟨q,m,hv⟩:∃q m,a.v0=.slice q c.sign.length m:=by obtain⟨q,m,hv,_⟩:=hc.sign;exact⟨q,m,hv⟩
  have hrow:=hc.sign.row;rw[hv]at hrow c0;obtain⟨b,o,rfl,hcell⟩:=hrow.at (i:=j) oM;have hx:=hcell.at 2 (v:=.int .i64 c.sign[j].len) rfl;have hn:=hl c.sign[j] (List.getElem_mem _);have hw:(if(3:Int)=3 then lenOf c ((j:Int))else if(3:Int)=1 then 1 else 0)=c.sign[j].len.toNat:=by
   rw[if_pos rfl];unfold lenOf;simp[show j<c.sign.length by omega]
  rw[hw];obtain⟨N,hN⟩:∃N,c.sign.length=N:=⟨_,rfl⟩
  obtain⟨L,hL⟩:∃L,c.sign[j].len=L:=⟨_,rfl⟩
  rw[hL]at hx hn ⊢;rw[hN]at c0 h1;have hLL:((L.toNat:Nat):Int)=L:=oM;rw[hLL];clear hw hcell hrow hv hL hN;have f0:=kc (Zhq w (.cells #[.int .i64 3,.int .i64 (j:Int)] 69)) c0;have f1:=kc (Zhq w (.cells #[.int .i64 3,.int .i64 (j:Int)] 69)) hx;have n1:b≠w.heap.size:=by have:=Zhr hx;simp at this;omega
  have n2:a.C≠w.heap.size:=by have:=Zhr c0;simp at this;omega
  obtain⟨C,hC⟩:∃C,a.C=C:=⟨_,rfl⟩
  rw[hC]at c0 f0 n2 ⊢;clear hC hc hl ht;go_enter func59,ntmps59;go_wp2;refine rG (fun v=>v.cell? ⟨C,0,none⟩=some (.slice (some ⟨b,o,none⟩) N m)/\v.cell? ⟨b,o+j*3+2,none⟩=some (.int .i64 L)/\v.cell? ⟨w.heap.size,0,none⟩=some (.int .i64 3)/\v.cell? ⟨w.heap.size,1,none⟩=some (.int .i64 (j:Int))) fun hHeld=>?_;refine Tf 0 1 2 3 4 5 ?_;refine Tc 6 7 8 ?_;refine tkT 9 ?_;refine wpAnyH_done kR ?_ _;go_wp2;go_ret;exact⟨rfl,gG⟩
 ·have e3:(k==3)=false:=by simpa using h3
  rw[if_neg h3];by_cases h1:k=1
  ·subst h1;clear hc ht hl c0;go_enter func59,ntmps59;go_wp2;go_ret;exact⟨rfl,gG⟩
  ·have e1:(k==1)=false:=by simpa using h1
   rw[if_neg h1];clear hc ht hl c0;go_enter func59,ntmps59;go_wp2;go_ret;exact⟨rfl,gG⟩
end Go.Proofs.YtbinohkcolcbfaaGreat
