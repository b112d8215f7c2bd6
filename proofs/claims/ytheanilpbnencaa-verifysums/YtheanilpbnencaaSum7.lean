import Derived.Test.YtheanilpbnencaaSum2
import Derived.Test.YtheanilpbnencaaRows
import Derived.WalkKit
import Derived.WalkSpells
import Derived.WalkLawsBesides
import Derived.Test.YtheanilpbnencaaSum1
namespace Go.Proofs.Ytheanilpbnencaa
open Go.RowKit Go.Proofs.Try
set_option linter.all false
set_option maxRecDepth 100000
set_option maxHeartbeats 16000000
theorem FC(w:World):Calls prog 42 #[.int .i64 22] w fun e w'=>e=.returned (.tuple #[AW (A6 22),.bool true])/\Below w.heap.size w w':=by
 exact Bn
theorem FD(w:World):Calls prog 42 #[.int .i64 23] w fun e w'=>e=.returned (.tuple #[AW (A6 23),.bool true])/\Below w.heap.size w w':=by
 exact Bn
theorem FE(w:World):Calls prog 42 #[.int .i64 24] w fun e w'=>e=.returned (.tuple #[AW (A6 24),.bool true])/\Below w.heap.size w w':=by
 exact Bn
theorem FF(w:World):Calls prog 42 #[.int .i64 25] w fun e w'=>e=.returned (.tuple #[AW (A6 25),.bool true])/\Below w.heap.size w w':=by
 exact Bn
theorem FG(w:World):Calls prog 42 #[.int .i64 26] w fun e w'=>e=.returned (.tuple #[AW (A6 26),.bool true])/\Below w.heap.size w w':=by
 exact Bn
theorem FH(w:World):Calls prog 42 #[.int .i64 27] w fun e w'=>e=.returned (.tuple #[AW (A6 27),.bool true])/\Below w.heap.size w w':=by
 exact Bn
theorem FI(w:World):Calls prog 42 #[.int .i64 28] w fun e w'=>e=.returned (.tuple #[AW (A6 28),.bool true])/\Below w.heap.size w w':=by
 exact Bn
theorem FJ(w:World):Calls prog 42 #[.int .i64 29] w fun e w'=>e=.returned (.tuple #[AW (A6 29),.bool true])/\Below w.heap.size w w':=by
 exact Bn
theorem FK(w:World):Calls prog 42 #[.int .i64 30] w fun e w'=>e=.returned (.tuple #[AW (A6 30),.bool true])/\Below w.heap.size w w':=by
 exact Bn
theorem FL(w:World):Calls prog 42 #[.int .i64 31] w fun e w'=>e=.returned (.tuple #[AW (A6 31),.bool true])/\Below w.heap.size w w':=by
 exact Bn
theorem FM(w:World):Calls prog 42 #[.int .i64 32] w fun e w'=>e=.returned (.tuple #[AW (A6 32),.bool true])/\Below w.heap.size w w':=by
 exact Bn
theorem FN(w:World):Calls prog 42 #[.int .i64 33] w fun e w'=>e=.returned (.tuple #[AW (A6 33),.bool true])/\Below w.heap.size w w':=by
 exact Bn
theorem FO(w:World):Calls prog 42 #[.int .i64 34] w fun e w'=>e=.returned (.tuple #[AW (A6 34),.bool true])/\Below w.heap.size w w':=by
 exact Bn
theorem FP(w:World):Calls prog 42 #[.int .i64 35] w fun e w'=>e=.returned (.tuple #[AW (A6 35),.bool true])/\Below w.heap.size w w':=by
 exact Bn
theorem FQ(w:World):Calls prog 42 #[.int .i64 36] w fun e w'=>e=.returned (.tuple #[AW (A6 36),.bool true])/\Below w.heap.size w w':=by
 exact Bn
theorem FR(w:World):Calls prog 42 #[.int .i64 37] w fun e w'=>e=.returned (.tuple #[AW (A6 37),.bool true])/\Below w.heap.size w w':=by
 exact Bn
theorem Fs(w:World):Calls prog 42 #[.int .i64 13] w fun e w'=>e=.returned (.tuple #[AW (A6 13),.bool true])/\Below w.heap.size w w':=by
 exact Bn
theorem Ft(w:World):Calls prog 42 #[.int .i64 14] w fun e w'=>e=.returned (.tuple #[AW (A6 14),.bool true])/\Below w.heap.size w w':=by
 exact Bn
theorem Fu(w:World):Calls prog 42 #[.int .i64 15] w fun e w'=>e=.returned (.tuple #[AW (A6 15),.bool true])/\Below w.heap.size w w':=by
 exact Bn
theorem Fv(w:World):Calls prog 42 #[.int .i64 16] w fun e w'=>e=.returned (.tuple #[AW (A6 16),.bool true])/\Below w.heap.size w w':=by
 exact Bn
theorem Fw(w:World):Calls prog 42 #[.int .i64 17] w fun e w'=>e=.returned (.tuple #[AW (A6 17),.bool true])/\Below w.heap.size w w':=by
 exact Bn
theorem Fx(w:World):Calls prog 42 #[.int .i64 18] w fun e w'=>e=.returned (.tuple #[AW (A6 18),.bool true])/\Below w.heap.size w w':=by
 exact Bn
theorem Fy(w:World):Calls prog 42 #[.int .i64 19] w fun e w'=>e=.returned (.tuple #[AW (A6 19),.bool true])/\Below w.heap.size w w':=by
 exact Bn
theorem Fz(w:World):Calls prog 42 #[.int .i64 20] w fun e w'=>e=.returned (.tuple #[AW (A6 20),.bool true])/\Below w.heap.size w w':=by
 exact Bn
theorem FA(w:World):Calls prog 42 #[.int .i64 21] w fun e w'=>e=.returned (.tuple #[AW (A6 21),.bool true])/\Below w.heap.size w w':=by
 exact Bn




def Bj:Wk->List Au->Wk
 |s,[]=>s
 |s,i::r=>Bj (AA s i) r
def Ak(c:Cd):Wk->List Au->Bool
 |_,[]=>true
 |s,i::r=>AD c s i&&Ak c (AA s i) r
theorem Ce:∀ (l m:List Au) (s:Wk),Bj s (l++m)=Bj (Bj s l) m
 |[],m,s=>rfl
 |i::l,m,s=>by simp only[List.cons_append,Bj];exact Ce l m _
theorem Fb{c:Cd}:∀ {l:List Au} {s:Wk} {k:Nat},(F5 c s k l).1=0↔Ak c s l=true/\(Bj s l).opens.isEmpty=true
 |[],s,k=>by
  simp only[F5,Ak,Bj,true_and];by_cases h:s.opens.isEmpty=true
  .simp[h]
  .simp[h]
 |i::l,s,k=>by
  simp only[F5,Ak,Bj,Bool.and_eq_true];by_cases h:AD c s i=true
  .rw[if_pos h,Fb (k:=k+1)];simp[h]
  .rw[if_neg h];simp[h]
theorem Ai{c:Cd}:(A9 c).1=0↔Be c=0/\Ak c ⟨[],[]⟩ c.list=true/\(Bj ⟨[],[]⟩ c.list).opens.isEmpty=true:=by
 unfold A9;by_cases h:Be c=0
 .rw[if_neg (by simp[h]),Fb];simp[h]
 .rw[if_pos h];simp[h]

def Br(ps:List AF)(t:Ty):Int:=if t.kind≠3 then 1 else if Ao t.par ps.length=true then((ps[t.par.toNat]?).map fun p=>p.len).getD 0 else 0
def B6(c:Cd)(i:Au):Int:=
 if i.op=16 then 62
 else if Aw i.op=true\/i.op=29\/i.op=30\/i.op=32 then Br c.sign (B4 c.regs i.d)
 else if i.op=31\/i.op=33\/i.op=19\/i.op=20 then Br c.sign (B4 c.regs i.a)
 else 1
def Am(c:Cd):List Au->Int
 |[]=>0
 |i::l=>B6 c i+Am c l
def AK(c:Cd):Int:=Am c c.list
def BA(c:Cd):Int:=(c.regs.map fun t=>Br c.sign t).sum+(c.slots.map fun s=>Br c.sign s.ty).sum
theorem C6(c:Cd):∀l m:List Au,Am c (l++m)=Am c l+Am c m
 |[],m=>by simp[Am]
 |i::l,m=>by simp only[List.cons_append,Am,C6 c l m];omega
theorem Af{n:Int}{k:Nat}:Ao n k=true↔0<=n/\n<(k:Int):=by unfold Ao;simp
theorem FU{ps:List AF}(h:AN ps=0):∀p∈ps,AZ p=true:=by
 unfold AN at h;split at h
 .exact absurd h dE
 .split at h
  .exact absurd h dE
  .rename_i h2;intro p hp;have h3:ps.all AZ=true:=by simpa using h2
   exact List.all_eq_true.1 h3 p hp
theorem Gg{p:AF}(h:AZ p=true):1<=p.len/\p.len<=4096:=by
 unfold AZ at h;simp only[Bool.and_eq_true,decide_eq_true_eq]at h;exact h.2
theorem Du{ps:List AF}{t:Ty}(hs:AN ps=0)(ht:Al t ps.length=true):1<=Br ps t/\Br ps t<=4096:=by
 unfold Br;by_cases h3:t.kind=3
 .rw[if_neg (by simp[h3])];unfold Al at ht;rw[if_neg oM,if_pos h3]at ht;rw[if_pos ht];obtain⟨h0,h1⟩:=Af.1 ht;have hl:t.par.toNat<ps.length:=oM;rw[gB hl];exact Gg (FU hs _ (gD hl))
 .rw[if_pos h3];omega
theorem DK{c:Cd}{n:Int}(ht:Ar c=true)(hn:Ao n c.regs.length=true):Al (B4 c.regs n) c.sign.length=true:=by
 obtain⟨h0,h1⟩:=Af.1 hn;have hl:n.toNat<c.regs.length:=oM;unfold B4;rw[if_pos hn,gB hl];exact List.all_eq_true.1 ht _ (gD hl)
theorem Bg{rs:List Ty}{l n:Int}{m:Ty}(h:A7 rs l n m=true)(hl:l≠0):Ao n rs.length=true:=by
 unfold A7 at h;rw[if_neg hl]at h;simp only[Bool.and_eq_true]at h;exact h.1
theorem Ej:∀n:Nat,n<38->(Aw (n:Int)=true\/(n:Int)=29\/(n:Int)=30\/(n:Int)=32)->(A6 (n:Int)).d≠0:=by decide+kernel
theorem Ei:∀n:Nat,n<38->((n:Int)=31\/(n:Int)=33\/(n:Int)=19\/(n:Int)=20)->(A6 (n:Int)).a≠0:=by decide+kernel
theorem GY:∀n:Nat,n<38->1<=n->((A6 (n:Int)).d=0/\(A6 (n:Int)).a=0)->((A6 (n:Int)).b=0/\(A6 (n:Int)).c=0/\((A6 (n:Int)).n=0\/(A6 (n:Int)).n=11)/\AY (n:Int)=false):=by decide+kernel
structure Tk(c:Cd)(s:Wk)(i:Au):Prop where
 known:1<=i.op/\i.op<=37
 d:A7 c.regs (A6 i.op).d i.d (Ae c.regs i (A6 i.op))=true
 a:A7 c.regs (A6 i.op).a i.a (Ae c.regs i (A6 i.op))=true
 b:A7 c.regs (A6 i.op).b i.b (Ae c.regs i (A6 i.op))=true
 e:A7 c.regs (A6 i.op).c i.c (Ae c.regs i (A6 i.op))=true
 n:AG c i (A6 i.op).n (Ae c.regs i (A6 i.op))=true
 stand:Aj c s i (A6 i.op)=true
 read:C9 s i (A6 i.op)=true
theorem BC{c:Cd}{s:Wk}{i:Au}:AD c s i=true↔Tk c s i:=by
 unfold AD AR AH;simp only[Bool.and_eq_true,decide_eq_true_eq];exact⟨fun⟨k,⟨d,a,b,e,n⟩,st,r⟩=>⟨k,d,a,b,e,n,st,r⟩,fun h=>⟨h.known,⟨h.d,h.a,h.b,h.e,h.n⟩,h.stand,h.read⟩⟩
theorem H4{c:Cd}{s:Wk}{i:Au}(hs:AN c.sign=0)(ht:Ar c=true)(h:Tk c s i):1<=B6 c i/\B6 c i<=4096:=by
 obtain⟨N,hN⟩:∃N:Nat,i.op=(N:Int):=⟨i.op.toNat,by have:=h.known;omega⟩
 have hN2:N<38:=by have:=h.known;omega
 unfold B6;by_cases h1:i.op=16
 .rw[if_pos h1];omega
 .rw[if_neg h1];by_cases h2:Aw i.op=true\/i.op=29\/i.op=30\/i.op=32
  .rw[if_pos h2];refine Du hs (DK ht (Bg h.d ?_));rw[hN]at h2 |-;exact Ej N hN2 h2
  .rw[if_neg h2];by_cases h3:i.op=31\/i.op=33\/i.op=19\/i.op=20
   .rw[if_pos h3];refine Du hs (DK ht (Bg h.a ?_));rw[hN]at h3 |-;exact Ei N hN2 h3
   .rw[if_neg h3];omega
def At(c:Cd)(x:List Au):Cd:=⟨c.sign,c.regs++[⟨2,0⟩],c.slots++[⟨⟨2,0⟩,false,0,0⟩],x⟩
theorem Do{n:Int}{k:Nat}(h:Ao n k=true):Ao n (k+1)=true:=by rw[Af]at h |-;omega
theorem BT{rs:List Ty}{t:Ty}{n:Int}(h:Ao n rs.length=true):B4 (rs++[t]) n=B4 rs n:=by
 obtain⟨h0,h1⟩:=Af.1 h;unfold B4;rw[if_pos h,if_pos (by rw[List.length_append];exact Do h),List.getElem?_append_left oM]
theorem F1{ss:List Sl}{z:Sl}{n:Int}(h:Ao n ss.length=true):Cf (ss++[z]) n=Cf ss n:=by
 obtain⟨h0,h1⟩:=Af.1 h;unfold Cf;rw[List.getElem?_append_left oM]
theorem B7{rs:List Ty}{t:Ty}{l n:Int}{m:Ty}(h:A7 rs l n m=true):A7 (rs++[t]) l n m=true:=by
 unfold A7 at h |-;by_cases hl:l=0
 .rw[if_pos hl]at h |-;exact h
 .rw[if_neg hl]at h |-;simp only[Bool.and_eq_true]at h;rw[BT h.1,List.length_append];simp only[Bool.and_eq_true];exact⟨Do h.1,h.2⟩
theorem EK{c:Cd}{x:List Au}{n l:Int}{m:Ty}(h:Cx c n l m=true):Cx (At c x) n l m=true:=by
 unfold Cx at h |-;by_cases h8:l=8
 .rw[if_pos h8]at h |-;exact h
 .rw[if_neg h8]at h |-;by_cases h9:l=9
  .rw[if_pos h9]at h |-;exact h
  .rw[if_neg h9]at h |-;by_cases h10:l=10
   .rw[if_pos h10]at h |-;simp only[Bool.and_eq_true]at h |-;show Ao n (c.slots++[_]).length=true/\decide (Cf (c.slots++[_]) n=m)=true;rw[F1 h.1,List.length_append];exact⟨Do h.1,h.2⟩
   .rw[if_neg h10]at h |-;exact h
theorem Dm{c:Cd}{x:List Au}{i:Au}{l:Int}{m:Ty}(h:AG c i l m=true):AG (At c x) i l m=true:=by
 unfold AG at h |-;by_cases h7:l=7
 .rw[if_pos h7]at h |-;exact h
 .rw[if_neg h7]at h |-;simp only[Bool.and_eq_true]at h |-;exact⟨h.1,EK h.2⟩
theorem Fc{c:Cd}{s:Wk}{i:Au}(h:Tk c s i):((A6 i.op).d=0/\(A6 i.op).a=0)\/Ao (D9 i (A6 i.op)) c.regs.length=true:=by
 unfold D9;by_cases hd:(A6 i.op).d=0
 .by_cases ha:(A6 i.op).a=0
  .exact .inl ⟨hd,ha⟩
  .rw[if_pos hd];exact .inr (Bg h.a ha)
 .rw[if_neg hd];exact .inr (Bg h.d hd)
structure Wx(L:Nat)(s s':Wk):Prop where
 set:s'.set=L::s.set
 opens:s'.opens=s.opens.map fun b=>⟨b.loop,b.par,b.ahead+1⟩
theorem Wx.inLoop{L:Nat}{s s':Wk}(h:Wx L s s'):inLoop s'=Go.Proofs.Ytheanilpbnencaa.inLoop s:=by
 unfold Go.Proofs.Ytheanilpbnencaa.inLoop;rw[h.opens];cases s.opens<;>rfl
theorem Wx.inner{L:Nat}{s s':Wk}(h:Wx L s s'):AT s'=AT s:=by
 unfold AT;rw[h.opens];cases s.opens<;>rfl
theorem De{c c':Cd}{s s':Wk}{i:Au}{r:Rw}(hl:s'.opens.length=s.opens.length)(hi:inLoop s'=inLoop s)(hn:AT s'=AT s)(hm:AY i.op=false\/Ae c'.regs i r=Ae c.regs i r)(h:Aj c s i r=true):Aj c' s' i r=true:=by
 have he:s'.opens.isEmpty=s.opens.isEmpty:=by
  cases h1:s.opens<;>cases h2:s'.opens<;>simp[h1,h2]at hl |-
 unfold Aj at h |-;rw[hi,hn,hl,he];rcases hm with hm|hm
 .rw[hm]at h |-;simpa using h
 .rw[hm];exact h
theorem Tk.ext{c:Cd}{x:List Au}{s s':Wk}{i:Au}(h:Tk c s i)(hl:s'.opens.length=s.opens.length)(hi:inLoop s'=inLoop s)(hn:AT s'=AT s)(hr:C9 s' i (A6 i.op)=true):Tk (At c x) s' i:=by
 obtain⟨N,hN⟩:∃N:Nat,i.op=(N:Int):=⟨i.op.toNat,by have:=h.known;omega⟩
 rcases Fc h with hm|hm
 .obtain⟨hb,hc,hq,hlo⟩:=GY N (by have:=h.known;omega) (by have:=h.known;omega) (by rw[<-hN];exact hm);rw[<-hN]at hb hc hq hlo;have z0:∀ {n:Int} {m m':Ty},A7 c.regs 0 n m=true->A7 (At c x).regs 0 n m'=true:=fun h=>h;refine⟨h.known,?_,?_,?_,?_,?_,De hl hi hn (.inl hlo) h.stand,hr⟩
  .have:=h.d;rw[hm.1]at this |-;exact z0 this
  .have:=h.a;rw[hm.2]at this |-;exact z0 this
  .have:=h.b;rw[hb]at this |-;exact z0 this
  .have:=h.e;rw[hc]at this |-;exact z0 this
  .have:=h.n;rcases hq with hq|hq<;>rw[hq]at this |- <;>exact this
 .have hmt:Ae (At c x).regs i (A6 i.op)=Ae c.regs i (A6 i.op):=BT hm;refine⟨h.known,?_,?_,?_,?_,?_,De hl hi hn (.inr hmt) h.stand,hr⟩
  .rw[hmt];exact B7 h.d
  .rw[hmt];exact B7 h.a
  .rw[hmt];exact B7 h.b
  .rw[hmt];exact B7 h.e
  .rw[hmt];exact Dm h.n
theorem Di(c:Cd)(x:List Au):∀ (l:List Au) (s:Wk),Ak c s l=true->Ak (At c x) s l=true
 |[],s,_=>rfl
 |i::l,s,h=>by
  simp only[Ak,Bool.and_eq_true]at h |-;have ht:=BC.1 h.1;exact⟨BC.2 (ht.ext rfl rfl rfl ht.read),Di c x l _ h.2⟩
theorem Wx.step{c:Cd}{L:Nat}{s s':Wk}{i:Au}(h:Wx L s s')(ht:Tk c s i)(hL:L=c.regs.length):Wx L (AA s i) (AA s' i):=by
 have hleave:Wx L (AU s) (AU s'):=by
  unfold AU;rw[h.opens];cases ho:s.opens with
  |nil=>rw[List.map_nil];exact⟨h.set,by rw[h.opens,ho]⟩
  |cons b r=>
   rw[List.map_cons];refine⟨?_,rfl⟩;show(if b.loop=true then s'.set else s'.set.take (b.ahead+1))=L::(if b.loop=true then s.set else s.set.take b.ahead);by_cases hb:b.loop=true
   .rw[if_pos hb,if_pos hb,h.set]
   .rw[if_neg hb,if_neg hb,h.set];rfl
 have hturn:Wx L (Bc s i) (Bc s' i):=by
  unfold Bc;by_cases h1:i.op=34\/i.op=36
  .rw[if_pos h1,if_pos h1];exact⟨h.set,by simp[h.set,h.opens]⟩
  .rw[if_neg h1,if_neg h1];by_cases h2:i.op=35\/i.op=37
   .rw[if_pos h2,if_pos h2];exact hleave
   .rw[if_neg h2,if_neg h2];exact h
 unfold AA CE Dw;by_cases hd:(A6 i.op).d≠0
 .have hp:=Af.1 (Bg ht.d hd);have hne:i.d.toNat≠L:=oM;by_cases hm:i.d.toNat∉(Bc s i).set
  .rw[if_pos ⟨hd,hm⟩,if_pos ⟨hd,by rw[hturn.set];simp[hne,hm]⟩];exact⟨by show(Bc s' i).set++[_]=L::((Bc s i).set++[_]);rw[hturn.set];rfl,hturn.opens⟩
  .rw[if_neg (fun h=>hm h.2),if_neg (fun h9=>hm (by have:=h9.2;rw[hturn.set]at this;simp[hne]at this;exact this))];exact hturn
 .rw[if_neg (fun h=>hd h.1),if_neg (fun h=>hd h.1)];exact hturn
theorem Cg(c:Cd)(x:List Au){L:Nat}(hL:L=c.regs.length):∀ (l:List Au) (s s':Wk),Wx L s s'->Ak c s l=true->Ak (At c x) s' l=true/\Wx L (Bj s l) (Bj s' l)
 |[],s,s',h,_=>⟨rfl,h⟩
 |i::l,s,s',h,ht=>by
  simp only[Ak,Bool.and_eq_true]at ht;have hk:=BC.1 ht.1;obtain⟨h1,h2⟩:=Cg c x hL l _ _ (h.step hk hL) ht.2;refine⟨?_,h2⟩;simp only[Ak,Bool.and_eq_true];refine⟨BC.2 (hk.ext (by rw[h.opens,List.length_map]) h.inLoop h.inner ?_),h1⟩;have hr:=hk.read;unfold C9 at hr |-;rw[List.all_eq_true]at hr |-;intro n hn;have:=hr n hn;simp only[decide_eq_true_eq]at this |-;rw[h.set];exact List.mem_cons_of_mem _ this
def jV(c:Cd):Au:=⟨2,(c.regs.length:Int),0,0,0,0,0⟩
theorem H5{c:Cd}{s:Wk}{i:Au}(x:List Au)(h:Tk c s i):B6 (At c x) i=B6 c i:=by
 obtain⟨N,hN⟩:∃N:Nat,i.op=(N:Int):=⟨i.op.toNat,by have:=h.known;omega⟩
 have hN2:N<38:=by have:=h.known;omega
 unfold B6;by_cases h1:i.op=16
 .rw[if_pos h1,if_pos h1]
 .rw[if_neg h1,if_neg h1];by_cases h2:Aw i.op=true\/i.op=29\/i.op=30\/i.op=32
  .rw[if_pos h2,if_pos h2];have hd:Ao i.d c.regs.length=true:=Bg h.d (by rw[hN]at h2 |-;exact Ej N hN2 h2);show Br c.sign (B4 (c.regs++[_]) i.d)=_;rw[BT hd]
  .rw[if_neg h2,if_neg h2];by_cases h3:i.op=31\/i.op=33\/i.op=19\/i.op=20
   .rw[if_pos h3,if_pos h3];have hd:Ao i.a c.regs.length=true:=Bg h.a (by rw[hN]at h3 |-;exact Ei N hN2 h3);show Br c.sign (B4 (c.regs++[_]) i.a)=_;rw[BT hd]
   .rw[if_neg h3,if_neg h3]
theorem Cv(c:Cd)(x:List Au):∀ (l:List Au) (s:Wk),Ak c s l=true->Am (At c x) l=Am c l
 |[],s,_=>rfl
 |i::l,s,h=>by
  simp only[Ak,Bool.and_eq_true]at h;simp only[Am];rw[H5 x (BC.1 h.1),Cv c x l _ h.2]
theorem Dh{c:Cd}(hs:AN c.sign=0)(ht:Ar c=true):∀ (l:List Au) (s:Wk),Ak c s l=true->∀i∈l,1<=B6 c i/\B6 c i<=4096
 |[],s,_,i,hi=>by cases hi
 |j::l,s,h,i,hi=>by
  simp only[Ak,Bool.and_eq_true]at h;rcases List.mem_cons.1 hi with e|e
  .rw[e];exact H4 hs ht (BC.1 h.1)
  .exact Dh hs ht l _ h.2 i e
structure Ah(c:Cd):Prop where
 sign:AN c.sign=0
 regs:c.regs.length<=16384
 list:c.list.length<=32768
 slots:c.slots.length<=4096
 types:Ar c=true
 begun:Bf c=true
theorem AM{c:Cd}:Be c=0↔Ah c:=by
 unfold Be;by_cases h0:AN c.sign=0
 .rw[if_neg (by simp[h0])];by_cases h1:16384<c.regs.length\/32768<c.list.length
  .rw[if_pos h1];exact⟨fun h=>absurd h dE,fun h=>by have:=h.regs;have:=h.list;omega⟩
  .rw[if_neg h1];by_cases h2:4096<c.slots.length
   .rw[if_pos h2];exact⟨fun h=>absurd h dE,fun h=>by have:=h.slots;omega⟩
   .rw[if_neg h2];by_cases h3:(Ar c&&Bf c)=true
    .rw[if_pos h3];simp only[Bool.and_eq_true]at h3;exact⟨fun _=>⟨h0,oM,oM,oM,h3.1,h3.2⟩,fun _=>rfl⟩
    .rw[if_neg h3];exact⟨fun h=>absurd h dE,fun h=>absurd (by rw[h.types,h.begun];rfl) h3⟩
 .rw[if_pos h0];exact⟨fun h=>absurd h h0,fun h=>absurd h.sign h0⟩
theorem GJ{c:Cd}{x:List Au}(h:Ah c)(hr:c.regs.length<16384)(hs:c.slots.length<4096)(hx:x.length<=32768):Ah (At c x):=by
 refine⟨h.sign,?_,hx,?_,?_,?_⟩
 .show(c.regs++[_]).length<=_;rw[List.length_append,List.length_singleton];omega
 .show(c.slots++[_]).length<=_;rw[List.length_append,List.length_singleton];omega
 .show(c.regs++[_]).all _=true;rw[List.all_append];have h9:(c.regs.all fun t=>Al t c.sign.length)=true:=h.types;show((c.regs.all fun t=>Al t c.sign.length)&&_)=true;rw[h9];rfl
 .show(c.slots++[_]).all _=true;rw[List.all_append];have h9:(c.slots.all fun s=>AB s c.sign.length)=true:=h.begun;show((c.slots.all fun s=>AB s c.sign.length)&&_)=true;rw[h9];rfl
theorem DG(c:Cd)(x:List Au)(s:Wk)(hs:s.opens=[]):AD (At c x) s (jV c)=true:=by
 have hreg:B4 (At c x).regs (c.regs.length:Int)=⟨2,0⟩:=by
  show B4 (c.regs++[_]) _=_;unfold B4;rw[if_pos (Af.2 ⟨oM,by rw[List.length_append,List.length_singleton];omega⟩),Int.toNat_natCast,List.getElem?_append_right (gF _),Nat.sub_self];rfl
 have hin:inLoop s=false:=by unfold inLoop;rw[hs]
 refine BC.2 ⟨⟨by simp[jV],by simp[jV]⟩,?_,rfl,rfl,rfl,rfl,?_,rfl⟩
 .show A7 (At c x).regs 2 (c.regs.length:Int) _=true;unfold A7;rw[if_neg dE,hreg];simp only[Bool.and_eq_true];exact⟨Af.2 ⟨oM,by show(c.regs.length:Int)<((c.regs++[_]).length:Int);rw[List.length_append,List.length_singleton];omega⟩,rfl⟩
 .show Aj (At c x) s (jV c) _=true;unfold Aj;rw[if_neg GI,if_neg GI,if_neg GI,hin];rfl
theorem Dg(c:Cd):∀ (l m:List Au) (s:Wk),Ak c s (l++m)=(Ak c s l&&Ak c (Bj s l) m)
 |[],m,s=>by simp[Ak,Bj]
 |i::l,m,s=>by simp only[List.cons_append,Ak,Bj,Dg c l m,Bool.and_assoc]
theorem Et(c:Cd)(s:Wk):Bc s (jV c)=s:=by
 unfold Bc;rw[if_neg GI,if_neg GI]
theorem Gc(c:Cd)(s:Wk)(hs:s.opens=[]):(AA s (jV c)).opens=[]:=by
 unfold AA CE;rw[Et];unfold Dw;split
 .exact hs
 .exact hs
theorem H3{c:Cd}(hc:(A9 c).1=0)(hr:c.regs.length<16384)(hs:c.slots.length<4096)(hl:c.list.length<32768):(A9 (At c (c.list++[jV c]))).1=0:=by
 obtain⟨h1,h2,h3⟩:=Ai.1 hc;have hop:(Bj ⟨[],[]⟩ c.list).opens=[]:=by simpa using h3
 refine Ai.2 ⟨AM.2 (GJ (AM.1 h1) hr hs (by rw[List.length_append,List.length_singleton];omega)),?_,?_⟩
 .show Ak (At c _) _ (c.list++[jV c])=true;rw[Dg,Di c _ c.list _ h2];simp only[Ak,DG c _ _ hop,Bool.and_self]
 .show(Bj _ (c.list++[jV c])).opens.isEmpty=true;rw[Ce];show(AA (Bj ⟨[],[]⟩ c.list) (jV c)).opens.isEmpty=true;rw[Gc c _ hop];rfl
theorem Eo{c:Cd}(hc:(A9 c).1=0)(hd:(A9 (At c (c.list++[jV c]))).1=0):(A9 (At c (jV c::c.list))).1=0:=by
 obtain⟨h1,h2,h3⟩:=Ai.1 hc;have hop:(Bj ⟨[],[]⟩ c.list).opens=[]:=by simpa using h3
 have hA:=AM.1 (Ai.1 hd).1;have hst:AA ⟨[],[]⟩ (jV c)=⟨[c.regs.length],[]⟩:=by
  unfold AA CE;rw[Et];unfold Dw;rw[if_pos ⟨by show(A6 2).d≠0;decide,sM⟩];show(⟨[]++[((c.regs.length:Nat):Int).toNat],[]⟩:Wk)=_;rw[Int.toNat_natCast];rfl
 obtain⟨h4,h5⟩:=Cg c (jV c::c.list) rfl c.list ⟨[],[]⟩ ⟨[c.regs.length],[]⟩ ⟨rfl,rfl⟩ h2;refine Ai.2 ⟨AM.2 ⟨hA.sign,hA.regs,?_,hA.slots,hA.types,hA.begun⟩,?_,?_⟩
 .have:=hA.list;show(jV c::c.list).length<=_;rw[List.length_cons];have h9:(c.list++[jV c]).length<=32768:=this;rw[List.length_append,List.length_singleton]at h9;exact h9
 .show Ak (At c _) ⟨[],[]⟩ (jV c::c.list)=true;simp only[Ak,Bool.and_eq_true];exact⟨DG c _ _ rfl,by rw[hst];exact h4⟩
 .show(Bj (AA ⟨[],[]⟩ (jV c)) c.list).opens.isEmpty=true;rw[hst,h5.opens,hop];rfl
theorem F3{c:Cd}(hc:(A9 c).1=0):AK (At c (c.list++[jV c]))=AK c+1/\AK (At c (jV c::c.list))=AK c+1:=by
 obtain⟨h1,h2,h3⟩:=Ai.1 hc;have hj:∀x,B6 (At c x) (jV c)=1:=fun x=>by
  unfold B6;rw[if_neg GI,if_neg (by simp[jV,Aw]),if_neg GI]
 constructor
 .show Am _ (c.list++[jV c])=Am c c.list+1;rw[C6,Cv c _ c.list _ h2];simp only[Am,hj];omega
 .show B6 _ (jV c)+Am _ c.list=Am c c.list+1;rw[hj,Cv c _ c.list _ h2];omega
theorem BV{c:Cd}(hc:(A9 c).1=0):∀i∈c.list,1<=B6 c i/\B6 c i<=4096:=by
 obtain⟨h1,h2,h3⟩:=Ai.1 hc;have hA:=AM.1 h1;exact Dh hA.sign hA.types c.list _ h2
theorem Cu{c:Cd}:∀ (l:List Au),(∀i∈l,1<=B6 c i/\B6 c i<=4096)->(l.length:Int)<=Am c l/\Am c l<=4096*(l.length:Int)
 |[],_=>by simp[Am]
 |i::l,h=>by
  have h1:=h i sM;have h2:=Cu l (fun j hj=>h j (List.mem_cons_of_mem _ hj));simp only[Am,List.length_cons];omega
end Go.Proofs.Ytheanilpbnencaa
