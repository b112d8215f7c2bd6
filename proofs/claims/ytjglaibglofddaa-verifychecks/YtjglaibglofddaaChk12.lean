import Derived.Test.YtjglaibglofddaaChk11
import Derived.Test.YtjglaibglofddaaChk6
import Derived.Test.YtjglaibglofddaaChk7
import Derived.Test.YtjglaibglofddaaChk8
import Derived.Test.YtjglaibglofddaaChk10
import Derived.Test.YtjglaibglofddaaChk9
import Derived.Test.YtjglaibglofddaaChk3
import Derived.Deep.DeepCutAuto
import Derived.Test.YtjglaibglofddaaChk1
namespace Go.Proofs.Ytjglaibglofddaa
open Go.RowKit Go.Proofs.Try
set_option linter.all false
set_option maxRecDepth 100000
set_option maxHeartbeats 16000000
theorem Cm{w:World}{B B':Nat}{t t':TypeId}{k k' n n':Nat}{v v':Value}{xs xs':List Value}(h:w.ownsRow B t k v n xs)(h':w.ownsRow B' t' k' v' n' xs')(ht:t≠t'):∀b,v.ownBlock=some b->v'.ownBlock≠some b:=by
 intro b hb hb';rcases h.2 with⟨rfl,_⟩|⟨g,cap,cur,rfl,_,hg,_⟩
 .exact absurd (show(none:Option Nat)=some b from hb) sM
 rcases h'.2 with⟨rfl,_⟩|⟨g',cap',cur',rfl,_,hg',_⟩
 .exact absurd (show(none:Option Nat)=some b from hb') sM
 have e1:g=b:=Option.some.inj hb;have e2:g'=b:=Option.some.inj hb';rw[e1]at hg;rw[e2,hg]at hg';simp only[Option.some.injEq,Obj.cells.injEq]at hg';exact ht hg'.2.1


def B7(M:Nat)(X:List Nat):List Value:=(List.range M).map fun j=>.bool (decide (j∈X))
theorem DD(M:Nat)(X:List Nat):(B7 M X).length=M:=by simp[B7]
theorem CQ{M:Nat}{X:List Nat}{j:Nat}(h:j<M):(B7 M X)[j]? =some (.bool (decide (j∈X))):=by
 unfold B7;rw[List.getElem?_map,List.getElem?_range h];rfl
theorem EM(M:Nat):B7 M []=List.replicate M (.bool false):=by
 apply List.ext_getElem?;intro j;by_cases h:j<M
 .rw[CQ h,List.getElem?_replicate,if_pos h];simp
 .rw[List.getElem?_eq_none KU,List.getElem?_eq_none sO]
theorem Is{M:Nat}{X:List Nat}{i:Av}(hd:(Aa i.op).d≠0)(hl:i.d.toNat<M):(B7 M X).set i.d.toNat (.bool true)=B7 M (Dk X i):=by
 apply List.ext_getElem?;intro j;by_cases h:j<M
 .rw[CQ h,List.getElem?_set];by_cases e:i.d.toNat=j
  .rw[if_pos e,if_pos KU];have:j∈Dk X i:=FL.2 (.inr ⟨hd,e.symm⟩);simp[this]
  .rw[if_neg e,CQ h];have:j∈Dk X i↔j∈X:=by
    rw[FL];exact⟨fun q=>q.resolve_right fun q=>e q.2.symm,.inl⟩
   simp[this]
 .rw[List.getElem?_eq_none (by rw[List.length_set,DD];omega),List.getElem?_eq_none KU]
theorem GQ{M:Nat}{X:List Nat}{i:Av}(hd:(Aa i.op).d=0):Dk X i=X:=by unfold Dk;rw[if_neg (fun q=>q.1 hd)]
theorem H7{B:Nat}{V:World}{p:Option Addr}{n q:Nat}{xs:List Value}(h:V.ownsRow B 4 1 (.slice p n q) n xs)(hB:B<=V.heap.size)(hn:n<=140737488351232):
 ∃g c' w',(Builtin.append_ #[67,67] 67 #[.slice p n q,.slice (some ⟨V.heap.size,0,none⟩) 1 1]).run prog (V.alloc (.cells #[.bool false] 4))=.ok (.slice (some ⟨g,0,none⟩) (n+1) c') w'/\Below B V w'/\w'.ownsRow B 4 1 (.slice (some ⟨g,0,none⟩) (n+1) c') (n+1) (xs++[.bool false]):=by
 obtain⟨i0,hi0,hz0,hz1,hz2⟩:=info_parts Cj;have hb0:Below V.heap.size V (V.alloc (.cells #[.bool false] 4)):=A0 _ _;have hsz:(V.alloc (.cells #[.bool false] 4)).heap.size=V.heap.size+1:=sM;have h0:=Ax h hb0;obtain⟨g,cap,w3,hr,hown,hgrow,hat,hlt⟩:=run_append_lies (P:=prog) (V.alloc (.cells #[.bool false] 4)) 67 67 B 4 i0 _ 1 1 underlying67 hi0 hz0 hz1 hz2 rfl dE (.slice p n q) n xs h0 ⟨V.heap.size,0,none⟩ 1 1 [.bool false] rfl
  (World.news_of_block (cs:=#[.bool false]) (t:=4) (fr:=(0,0)) (heap_alloc_new V _)) Jv dE mL oM sO _ rfl
 exact⟨g,cap,w3,hr,(hb0.mono hB).grown hgrow oM (fun q e=>(h0.lt q e).1),hown⟩
def J2(o:Ob)(u:Value):List Value:=[.int .i64 o.op,.int .i64 o.par,u]
def Cv:List Ob->List Value->List Value
 |o::l,u::us=>J2 o u++Cv l us
 |_,_=>[]
theorem DY(o:Ob)(u:Value):∀ {l:List Ob} {us:List Value},l.length=us.length->Cv (l++[o]) (us++[u])=Cv l us++J2 o u
 |[],[],_=>by simp[Cv]
 |[],_::_,h=>by simp at h
 |_::_,[],h=>by simp at h
 |a::l,b::us,h=>by simp only[List.cons_append,Cv];rw[DY o u (by simpa using h),List.append_assoc]
theorem CZ:∀ (m:Nat) (l:List Ob) (us:List Value),(Cv l us).take (m*3)=Cv (l.take m) (us.take m)
 |0,l,us=>by simp[Cv]
 |m+1,[],us=>by simp[Cv]
 |m+1,a::l,[]=>by simp[Cv]
 |m+1,a::l,b::us=>by
  simp only[List.take_succ_cons,Cv];rw[show(m+1)*3=(J2 a b).length+m*3 by simp[J2];omega,List.take_length_add_append,CZ m l us]
theorem FO(j:Nat)(hj:j<3):∀ {l:List Ob} {us:List Value} {k:Nat} {o:Ob} {u:Value},l[k]? =some o->us[k]? =some u->(Cv l us)[k*3+j]? =(J2 o u)[j]?
 |[],us,k,o,u,h,_=>by simp at h
 |a::l,[],k,o,u,_,h=>by simp at h
 |a::l,b::us,0,o,u,h,h'=>by
  simp at h h';subst h h';simp only[Cv];rw[Nat.zero_mul,Nat.zero_add,List.getElem?_append_left (by simpa[J2]using hj)]
 |a::l,b::us,k+1,o,u,h,h'=>by
  simp only[Cv];rw[List.getElem?_append_right (by simp[J2];omega)];have e:(k+1)*3+j-(J2 a b).length=k*3+j:=by simp[J2];omega
  rw[e];exact FO j hj (by simpa using h) (by simpa using h')
theorem Gx:(prog.info? 82).map (fun i=>(i.zero,i.size,i.bytes))=some (some (.agg #[.int .i64 0,.int .i64 0,.slice none 0 0]),3,40):=kR
structure SK(B M:Nat)(v:World)(sv ov:Value)(s:Wk)(us:List Value):Prop where
 hB:B<=v.heap.size
 set:v.ownsRow B 4 1 sv M (B7 M s.set)
 opn:v.ownsRow B 82 3 ov s.opens.length (Cv (DR s) us)
 len:us.length=s.opens.length
 each:∀k (h:k<us.length) o,(DR s)[k]? =some o->v.ownsRow B 4 1 us[k] M (B7 M o.set)/\∀b,sv.ownBlock=some b->us[k].ownBlock≠some b
section
variable {B M : Nat} {v v' : World} {sv ov : Value} {s : Wk} {us : List Value}
theorem SK.below(h:SK B M v sv ov s us)(k:Below v.heap.size v v'):SK B M v' sv ov s us:=
 ⟨gH h.hB k.size,Ax h.set k,Ax h.opn k,h.len,fun j hj o ho=>⟨Ax (h.each j hj o ho).1 k,(h.each j hj o ho).2⟩⟩
theorem CS:82≠4:=dE
theorem SK.ins{i:Av}{g q n:Nat}(h:SK B M v (.slice (some ⟨g,0,none⟩) M q) ov s us)(ok:BB n s)(h1:i.op≠34)(h2:i.op≠35)(h3:i.op≠36)(h4:i.op≠37)(hd:(Aa i.op).d≠0)(hl:i.d.toNat<M):
 SK B M (v.setCell ⟨g,i.d.toNat,none⟩ (.bool true)) (.slice (some ⟨g,0,none⟩) M q) ov (Am s i) us:=by
 have e1:=Hi (i:=i) ok h1 h2 h3 h4;have e2:(Am s i).set=Dk s.set i/\(Am s i).opens=s.opens:=by rw[Co h1 h2 h3 h4];exact⟨rfl,rfl⟩
 have hne:∀b,b≠g->(v.setCell ⟨g,i.d.toNat,none⟩ (.bool true)).heap[b]? =v.heap[b]? :=fun b hb=>gE hb;refine⟨by have:=h.hB;simp;omega,?_,?_,by rw[e2.2];exact h.len,fun k hk o ho=>?_⟩
 .rw[e2.1,<-Is hd hl];exact(h.set.stored _ _).1
 .rw[e1,e2.2];exact Au h.opn fun b hb=>hne b fun e=>Cm h.opn h.set CS b hb (by rw[e];rfl)
 .rw[e1]at ho;obtain⟨a1,a2⟩:=h.each k hk o ho;exact⟨Au a1 fun b hb=>hne b fun e=>a2 g rfl (by rw[<-e];exact hb),a2⟩
theorem SK.keep{i:Av}{n:Nat}(h:SK B M v sv ov s us)(ok:BB n s)(h1:i.op≠34)(h2:i.op≠35)(h3:i.op≠36)(h4:i.op≠37)(hd:(Aa i.op).d=0):SK B M v sv ov (Am s i) us:=by
 have e:Am s i=s:=by rw[Co h1 h2 h3 h4,GQ (M:=0) hd]
 rw[e];exact h
theorem J7{B:Nat}{V:World}{e t:TypeId}{z:Value}{sz by':Nat}(ht:prog.underlying t=some (.slice e))(hi:(prog.info? e).map (fun i=>(i.zero,i.size,i.bytes))=some (some z,sz,by'))(hzs:z.cells.size=sz)(hsz:0<sz){p:Option Addr}{n q:Nat}{xs:List Value}(h:V.ownsRow B e sz (.slice p n q) n xs)(hB:B<=V.heap.size)
 (cs:Array Value) (hcs:cs.size=sz) (h1:∀u∈cs.toList,u.oneCell'=true) (hn:n+1<=maxLen) (hb:(n+1)*by'<=140737488355328) (ty:TypeId):
 ∃g c' w',(Builtin.append_ #[t,t] ty #[.slice p n q,.slice (some ⟨V.heap.size,0,none⟩) 1 1]).run prog (V.alloc (.cells cs e))=.ok (.slice (some ⟨g,0,none⟩) (n+1) c') w'/\Below B V w'/\w'.ownsRow B e sz (.slice (some ⟨g,0,none⟩) (n+1) c') (n+1) (xs++cs.toList)/\∀b,b<V.heap.size->(Value.slice p n q).ownBlock≠some b->w'.heap[b]? =V.heap[b]? :=by
 obtain⟨i0,hi0,hz0,hz1,hz2⟩:=info_parts hi;have hb0:Below V.heap.size V (V.alloc (.cells cs e)):=A0 _ _;have hs:(V.alloc (.cells cs e)).heap.size=V.heap.size+1:=sM;have h0:=Ax h hb0;obtain⟨g,cap,w3,hr,hown,hgrow,hat,hlt⟩:=run_append_lies (P:=prog) (V.alloc (.cells cs e)) t ty B e i0 _ sz by' ht hi0 hz0 hz1 hz2 hzs hsz (.slice p n q) n xs h0 ⟨V.heap.size,0,none⟩ 1 1 cs.toList (by simp[hcs])
  (World.news_of_block (cs:=cs) (t:=e) (fr:=(0,0)) (heap_alloc_new V _)) h1 dE hn hb oM _ rfl
 refine⟨g,cap,w3,hr,(hb0.mono hB).grown hgrow oM (fun q e=>(h0.lt q e).1),hown,fun b hb hne=>?_⟩;rw[hgrow.block b oM (Ne.symm hne)];exact hb0.block b hb
theorem SK.push{i:Av}{p:Option Addr}{q:Nat}{u:Value}(h:SK B M v sv (.slice p s.opens.length q) s us)(k:Below v.heap.size v v')(hu:v'.ownsRow v.heap.size 4 1 u M (B7 M s.set))(hi:i.op=34\/i.op=36)(hn:s.opens.length<64)(ty:TypeId):
 ∃g c' w',(Builtin.append_ #[78,78] ty #[.slice p s.opens.length q,.slice (some ⟨v'.heap.size,0,none⟩) 1 1]).run prog (v'.alloc (.cells #[.int .i64 i.op,.int .i64 i.n,u] 82))=.ok (.slice (some ⟨g,0,none⟩) (s.opens.length+1) c') w'/\Below B v w'/\SK B M w' sv (.slice (some ⟨g,0,none⟩) (s.opens.length+1) c') (Am s i) (us++[u])/\∀b,b<v'.heap.size->(Value.slice p s.opens.length q).ownBlock≠some b->w'.heap[b]? =v'.heap[b]? :=by
 have h':=h.below k;have hone:u.oneCell'=true:=by
  obtain⟨p,c,rfl⟩:=Ap hu;rfl
 obtain⟨g,c',w',hr,hb,ho,hk⟩:=J7 (V:=v') underlying78 Gx rfl dE h'.opn h'.hB #[.int .i64 i.op,.int .i64 i.n,u] rfl (by intro x hx;simp at hx;rcases hx with rfl|rfl|rfl<;>first|rfl|exact hone) mL oM ty;have hs:(Am s i).set=s.set/\(Am s i).opens.length=s.opens.length+1:=by rw[Eh hi];exact⟨rfl,rfl⟩
 have eo:=Hh (s:=s) hi;have hsz:=k.size;refine⟨g,c',w',hr,(k.mono h.hB).trans hb,⟨gH h'.hB hb.size,?_,?_,by rw[hs.2,List.length_append,h.len];rfl,fun j hj o ho'=>?_⟩,hk⟩
 .rw[hs.1];exact Au h'.set fun b hbb=>hk b (h'.set.lt b hbb).2 (fun e=>Cm h'.opn h'.set CS b e hbb)
 .rw[hs.2,eo,DY _ _ (by rw[Dn];exact h.len.symm)];exact ho
 .rw[eo]at ho';by_cases hlt:j<us.length
  .rw[List.getElem?_append_left (by rw[Dn,<-h.len];exact hlt)]at ho';obtain⟨a1,a2⟩:=h'.each j hlt o ho';rw[List.getElem_append_left hlt];exact⟨Au a1 fun b hbb=>hk b (a1.lt b hbb).2 (fun e=>Cm h'.opn a1 CS b e hbb),a2⟩
  .have hj':j=us.length:=by simp at hj;omega
   subst hj';rw[List.getElem?_append_right (by rw[Dn,h.len];exact gF _)]at ho';have e0:us.length-(DR s).length=0:=by rw[Dn,h.len];omega
   rw[e0]at ho';simp at ho';subst ho';have e1:(us++[u])[us.length]'hj=u:=sM;rw[e1];refine⟨Bt (Au hu fun b hbb=>hk b (hu.lt b hbb).2 (fun e=>?_)) h.hB,fun b hbb e=>?_⟩
   .exact Cm h'.opn hu CS b e hbb
   .have a1:=(hu.lt b e).1;have a2:=(h.set.lt b hbb).2;omega
theorem SK.pop{p:Option Addr}{q n:Nat}(h:SK B M v sv (.slice p s.opens.length q) s us)(ok:BB n s)(h0:0<s.opens.length)(hl:Ar s=true):SK B M v sv (.slice p (s.opens.length-1) q) (Ay s) (us.take (s.opens.length-1)):=by
 refine⟨h.hB,by rw[Fh hl];exact h.set,?_,by rw[Bz,List.length_take,h.len];omega,fun k hk o ho=>?_⟩
 .rw[Bz,Ck ok h0,<-CZ];exact CH h.opn oM
 .rw[Ck ok h0]at ho;have hk':k<us.length:=by simp at hk;omega
  rw[List.getElem?_take]at ho;split at ho
  .obtain⟨a1,a2⟩:=h.each k hk' o ho;simp only[List.getElem_take];exact⟨a1,a2⟩
  .simp at ho
theorem SK.back{p:Option Addr}{q n:Nat}{u:Value}{o:Ob}(h:SK B M v sv (.slice p s.opens.length q) s us)(ok:BB n s)(h0:0<s.opens.length)(hl:Ar s=false)(k:Below v.heap.size v v')(ho:(DR s)[s.opens.length-1]? =some o)(hu:v'.ownsRow v.heap.size 4 1 u M (B7 M o.set)):
 SK B M v' u (.slice p (s.opens.length-1) q) (Ay s) (us.take (s.opens.length-1)):=by
 refine⟨gH h.hB k.size,by rw[GB hl ho h0];exact Bt hu h.hB,?_,by rw[Bz,List.length_take,h.len];omega,fun j hj x hx=>?_⟩
 .rw[Bz,Ck ok h0,<-CZ];exact Ax (CH h.opn oM) k
 .rw[Ck ok h0]at hx;have hk':j<us.length:=by simp at hj;omega
  rw[List.getElem?_take]at hx;split at hx
  .obtain⟨a1,a2⟩:=h.each j hk' x hx;simp only[List.getElem_take];refine⟨Ax a1 k,fun b hb e=>?_⟩;have b1:=(hu.lt b hb).1;have b2:=(a1.lt b e).2;omega
  .simp at hx
theorem SK.last{g q:Nat}(h:SK B M v sv (.slice (some ⟨g,0,none⟩) s.opens.length q) s us)(h0:0<s.opens.length):∃ (X:List Nat) (u:Value),(DR s)[s.opens.length-1]? =some ⟨if Ar s then 36 else 34,B1 s,X⟩/\v.ownsRow B 4 1 u M (B7 M X)/\v.cell? ⟨g,(s.opens.length-1)*3,none⟩=some (.int .i64 (if Ar s then 36 else 34))/\v.cell? ⟨g,(s.opens.length-1)*3+1,none⟩=some (.int .i64 (B1 s))/\v.cell? ⟨g,(s.opens.length-1)*3+2,none⟩=some u:=by
 obtain⟨X,hX⟩:=Hg h0;have hu:s.opens.length-1<us.length:=by rw[h.len];omega
 obtain⟨a1,a2⟩:=h.each _ hu _ hX;have cl:=fun(j:Nat) (hj:j<3)=>FO j hj hX (gB hu);have ca:=fun(j:Nat) (hj:j<3)=>h.opn.cellAt ((s.opens.length-1)*3+j) oM;refine⟨X,_,hX,a1,?_,?_,?_⟩
 .have:=ca 0 dE;rw[cl 0 dE]at this;exact this
 .have:=ca 1 dE;rw[cl 1 dE]at this;exact this
 .have:=ca 2 dE;rw[cl 2 dE]at this;exact this
theorem SK.start(w:World)(B:Nat)(h:B<=w.heap.size){sv:Value}(hs:w.ownsRow B 4 1 sv M (B7 M [])):SK B M w sv (.slice none 0 0) ⟨[],[]⟩ []:=
 ⟨h,hs,World.ownsRow_nil _ _ _ 3,rfl,fun k hk=>by simp at hk⟩
end
theorem It(M:Nat)(X:List Nat):∀u∈B7 M X,u.oneCell'=true:=by
 intro u hu;unfold B7 at hu;simp only[List.mem_map]at hu;obtain⟨j,-,rfl⟩:=hu;rfl
theorem Gp{t e:TypeId}{z:Value}{sz by':Nat}(ht:prog.underlying t=some (.slice e))(hi:(prog.info? e).map (fun i=>(i.zero,i.size,i.bytes))=some (some z,sz,by'))(p:Option Addr)(n c:Nat)(x:Option Addr)(d:Nat)(hn:n<=c)(ty:TypeId)(w:World):(Builtin.append_ #[t,t] ty #[.slice p n c,.slice x 0 d]).run prog w=.ok (.slice p n c) w:=by
 obtain⟨i0,hi0,hz0,hz1,hz2⟩:=info_parts hi;have h1:¬c<n:=oM;cases x with
 |none=>cases p<;>simp[Builtin.append_,run_underlying ht,sizeOf,typeInfo,hi0,Builtin.lenOf,Builtin.firstCells,storeCells,loadCells,loadCellsFrom,hn,h1]
 |some a=>cases p<;>simp[Builtin.append_,run_underlying ht,sizeOf,typeInfo,hi0,Builtin.lenOf,Builtin.firstCells,storeCells,loadCells,loadCellsFrom,hn,h1]
theorem Dg{B M:Nat}{X:List Nat}(v:Value)(hM:M<=16384)(w:World)(h:w.ownsRow B 4 1 v M (B7 M X)):
 Calls prog 36 #[v] w fun e w'=>∃u,e=.returned u/\w'.ownsRow w.heap.size 4 1 u M (B7 M X)/\Below w.heap.size w w':=by
 obtain⟨p,q,rfl⟩:=Ap h;have CC:∃u w',(Builtin.append_ #[67,67] 67 #[.slice none 0 0,.slice p M q]).run prog w=.ok u w'/\w'.ownsRow w.heap.size 4 1 u M (B7 M X)/\Below w.heap.size w w':=by
  by_cases h0:M=0
  .subst h0;refine⟨.slice none 0 0,w,Gp underlying67 Cj none 0 0 p q (gF _) _ _,?_,BC _⟩;have:B7 0 X=[]:=by simp[B7]
   rw[this];exact World.ownsRow_nil _ _ _ 1
  .obtain⟨g,c,e,hl,hg⟩:=h.form oM;simp only[Value.slice.injEq]at e;obtain⟨rfl,-,rfl⟩:=e;obtain⟨i0,hi0,hz0,hz1,hz2⟩:=info_parts Cj;obtain⟨g',cap,w',hr,hown,hgrow,hat,hlt⟩:=run_append_lies (P:=prog) w 67 67 w.heap.size 4 i0 _ 1 1 underlying67 hi0 hz0 hz1 hz2 rfl dE (.slice none 0 0) 0 [] (World.ownsRow_nil _ _ _ 1) ⟨g,0,none⟩ M q (B7 M X) KU
    (fun j u hu=>by
     have hj:j<M:=by have:=(List.getElem?_eq_some_iff.1 hu).1;rw[DD]at this;exact this
     have e:=h.cellAt j oM;have e2:(⟨g,0,none⟩:Addr).add j=⟨g,j,none⟩:=by simp[Addr.add];omega
     rw[e2,e,hu]) (It M X) oM mL oM (gF _) _ rfl
   simp only[Nat.zero_add,List.nil_append]at hr hown;exact⟨_,w',hr,hown,(Below.refl _ _).grown hgrow (gF _) (fun k e=>by simp[Value.ownBlock]at e)⟩
 obtain⟨u,w',hr,ho,hb⟩:=CC;have HR:Hid ((Builtin.append_ #[67,67] 67 #[.slice none 0 0,.slice p M q]).run prog w=.ok u w'):=hr;have HO:Hid (w'.ownsRow w.heap.size 4 1 u M (B7 M X)/\Below w.heap.size w w'):=⟨ho,hb⟩
 clear h hr ho hb;go_enter func36,ntmps36;go_wp2_with(at_builtin;refine Bc rF _ _ _ rF _ _ _ rF rF HR.out ?_);go_ret;exact⟨u,rfl,HO.1,HO.2⟩
theorem Fw{P:Program}{w w':World}{o:Oper}{a:Act}{K:Act->World->Prop}{Q:Exit->Act->World->Prop}(s x:Operand)(t:TypeId)
 (ho:o.op=.call {callee:=.builtin .append,args:=#[s,x],argTypes:=#[t,t]}) (v v2 v':Value) (hs:a.eval s=v) (hx:a.eval x=v2) (hr:(Builtin.append_ #[t,t] o.type #[v,v2]).run P w=.ok v' w')
 (h:K (a.put o.dst v') w') (y':Bool) (hy:y'=true):if y'=true then Oper.wp P o a w K Q else K (a.put o.dst undef) w:=by
 rw[if_pos hy];exact LX
def Kk(L:Lt):Bool:=decide (L.a=45->L.b=45->L.e=45\/L.e=113)&&(decide (L.a=45->L.b≠45->L.e=45\/L.e=112\/L.e=115)&&decide (L.a≠45->L.e=45\/L.e=105\/L.e=112\/L.e=115))
theorem J4{p:Prop}[Decidable p]{x y:Lt}(h:Kk x=true)(k:Kk y=true):Kk (if p then x else y)=true:=by
 split
 .exact h
 .exact k
theorem IY(op:Int):Kk (Bh op)=true:=by
 unfold Bh
 iterate 19 refine J4 dE ?_
 decide
theorem GM(v0 v1 v2 v3:Value)(c:Cd)(co:AI c)(hT:Ac c=true)(i:Av)(h0:0<=i.bits)(h1:i.bits<4294967296)(hk:An i.op=true)(h2:(i.op==1||i.bits==0)=true)(h3:AW i.bits=true)(w:World)(hv:BE w v0 v1 v2 v3 c):
 Calls prog 51 #[.agg #[v0,v1,v2,v3],BV i] w fun e w'=>e=.returned (.bool (By c i (Bh i.op)))/\Below w.heap.size w w':=by
 have HCAN:Hid (∀w,Calls prog 50 #[.int .u32 i.bits] w fun e w'=>e=.returned (.bool true)/\Below w.heap.size w w'):=by rw[<-h3];exact Bv i.bits h0 h1
 obtain⟨a,b,cc,d,e,⟨ea,eb,ec,ed,ee⟩,hc⟩:=Gj i.op hk;obtain⟨oa,ob,oc,od,oe,oT⟩:=JL i.op;have om:=IY i.op;unfold Kk at om;simp only[Bool.and_eq_true,decide_eq_true_eq]at om;obtain⟨m1,m2,m3⟩:=om;have hF:By c i (Bh i.op)=(Ad c.regs (Bh i.op).a i.d ⟨0,0⟩&&(Ad c.regs (Bh i.op).b i.a (dR c.regs (Bh i.op).a i.d)&&(Ad c.regs (Bh i.op).c i.b (dR c.regs (Bh i.op).a i.d)&&(Ad c.regs (Bh i.op).d i.c (dR c.regs (Bh i.op).a i.d)&&B9 c (Bh i.op).e i.n (tR c.regs (Bh i.op).a (Bh i.op).b i.d i.a))))):=by
  unfold By;rw[h2,h3,Bool.true_and,Bool.true_and]
 rw[hF];clear hF h3;have ix0:∀w,(Instr.index 9 (.string ⟨#[a,b,cc,d,e]⟩) (.int .i64 0)).run prog w=.ok (.int .u8 (Bh i.op).a) w:=fun w=>by rw[<-ea];simp[Instr.index,run_underlying underlying9,asIntOf,go_sem];rfl
 have ix1:∀w,(Instr.index 9 (.string ⟨#[a,b,cc,d,e]⟩) (.int .i64 1)).run prog w=.ok (.int .u8 (Bh i.op).b) w:=fun w=>by rw[<-eb];simp[Instr.index,run_underlying underlying9,asIntOf,go_sem];rfl
 have ix2:∀w,(Instr.index 9 (.string ⟨#[a,b,cc,d,e]⟩) (.int .i64 2)).run prog w=.ok (.int .u8 (Bh i.op).c) w:=fun w=>by rw[<-ec];simp[Instr.index,run_underlying underlying9,asIntOf,go_sem];rfl
 have ix3:∀w,(Instr.index 9 (.string ⟨#[a,b,cc,d,e]⟩) (.int .i64 3)).run prog w=.ok (.int .u8 (Bh i.op).d) w:=fun w=>by rw[<-ed];simp[Instr.index,run_underlying underlying9,asIntOf,go_sem];rfl
 have Hc:∀w,(Instr.index 9 (.string ⟨#[a,b,cc,d,e]⟩) (.int .i64 4)).run prog w=.ok (.int .u8 (Bh i.op).e) w:=fun w=>by rw[<-ee];simp[Instr.index,run_underlying underlying9,asIntOf,go_sem];rfl
 cases h:(i.op==1)
 .rw[h,Bool.false_or]at h2;have o2:(i.op != 1)=true:=by simpa using h
  have o4:(i.bits != 0)=false:=by simpa using h2
  by_cases hz:(Bh i.op).a=45
  .exact J9 v0 v1 v2 v3 c co hT i.op i.d i.a i.b i.c i.n i.bits _ _ _ _ _ a b cc d e hc HCAN ix0 ix1 ix2 ix3 Hc oa ob oc od oT h o2 h2 o4 hz (m1 hz) (m2 hz) w hv
  .exact Ja v0 v1 v2 v3 c co hT i.op i.d i.a i.b i.c i.n i.bits _ _ _ _ _ a b cc d e hc HCAN ix0 ix1 ix2 ix3 Hc oa ob oc od oT h o2 h2 o4 hz (m3 hz) w hv
 .have o2:(i.op != 1)=false:=by simpa using h
  have e1:i.op=1:=by simpa using h
  have ha:(Bh i.op).a≠45:=by rw[e1];decide
  have he:(Bh i.op).e=45:=by rw[e1];rfl
  exact Jb v0 v1 v2 v3 c co hT i.op i.d i.a i.b i.c i.n i.bits _ _ _ _ _ a b cc d e hc HCAN ix0 ix1 ix2 ix3 Hc oa ob oc od oT h o2 ha he w hv
theorem GL(v0 v1 v2 v3:Value)(c:Cd)(co:AI c)(hT:Ac c=true)(i:Av)(h0:0<=i.bits)(h1:i.bits<4294967296)(w:World)(hv:BE w v0 v1 v2 v3 c):
 Calls prog 51 #[.agg #[v0,v1,v2,v3],BV i] w fun e w'=>e=.returned (.bool (An i.op&&By c i (Bh i.op)))/\Below w.heap.size w w':=by
 cases hh:(An i.op&&((i.op==1||i.bits==0)&&AW i.bits))
 .have e:(An i.op&&By c i (Bh i.op))=false:=by
   unfold By;revert hh;cases An i.op<;>cases(i.op==1||i.bits==0)<;>cases AW i.bits<;>simp
  rw[e];exact Hp v0 v1 v2 v3 i h0 h1 hh w
 .simp only[Bool.and_eq_true]at hh;rw[hh.1,Bool.true_and];exact GM v0 v1 v2 v3 c co hT i h0 h1 hh.1 hh.2.1 hh.2.2 w hv
theorem J8{c:Cd}{i:Av}(h:AG c i (Aa i.op)=true):∀x∈AC i (Aa i.op),0<=x/\x<(c.regs.length:Int):=by
 intro x hx;unfold AC at hx;simp only[List.mem_append]at hx;rcases hx with hx|hx|hx
 .split at hx
  .simp at hx
  .rename_i e;simp at hx;subst hx;exact AN (FI h) e
 .split at hx
  .simp at hx
  .rename_i e;simp at hx;subst hx;exact AN (FJ h) e
 .split at hx
  .simp at hx
  .rename_i e;simp at hx;subst hx;exact AN (FK h) e
theorem GJ(i:Av):(AC i (Aa i.op)).length<=3:=by
 rw[CK];simp only[List.length_append];have a:=D6 (Aa i.op).a i.a;have b:=D6 (Aa i.op).b i.b;have d:=D6 (Aa i.op).c i.c;omega
theorem EJ(v0 v1 v2 v3:Value)(c:Cd)(co:AI c)(hT:Ac c=true)(i:Av)(hb0:0<=i.bits)(hb1:i.bits<4294967296)(B:Nat)(s:Wk)(sv ov:Value)(us:List Value)(hM:c.regs.length<=16384)(ok:BB c.regs.length s)(po:Bp s)(w:World)(hv:BE w v0 v1 v2 v3 c)(hs:SK B c.regs.length w sv ov s us):
 Calls prog 35 #[.agg #[v0,v1,v2,v3],BV i,sv,ov] w fun e w'=>e=.returned (.bool (AD c s i))/\Below w.heap.size w w':=by
 rw[GX hT po];have hfit:(An i.op&&By c i (Bh i.op))=true->AG c i (Aa i.op)=true:=fun h=>by simp only[Bool.and_eq_true]at h;rw[<-Ey hT];exact h.2
 have HFIT:Hid (∀v,Below w.heap.size w v->Calls prog 51 #[.agg #[v0,v1,v2,v3],BV i] v fun e w'=>e=.returned (.bool (An i.op&&By c i (Bh i.op)))/\Below v.heap.size v w'):=fun v hb=>GL v0 v1 v2 v3 c co hT i hb0 hb1 v (hv.below hb);have HVEC:Hid (∀v,Below w.heap.size w v->Calls prog 52 #[.agg #[v0,v1,v2,v3],BV i] v fun e w'=>e=.returned (.int .i64 (Cr c.regs (BY i)))/\Below v.heap.size v w'):=fun v hb=>EL v0 v1 v2 v3 c co i v (hv.below hb);have HRD:Hid (∀v,Calls prog 53 #[BV i] v fun e w'=>∃u,e=.returned u/\w'.ownsRow v.heap.size 3 1 u (AC i (Aa i.op)).length (Bb (AC i (Aa i.op)))/\Below v.heap.size v w'):=Fz i;have hR3:=GJ i;have hRP:=fun h=>J8 (hfit h);have hRO:D7 s i (Aa i.op)=(AC i (Aa i.op)).all fun n=>decide (n.toNat∈s.set):=rfl;rw[hRO];clear hfit hRO;unfold EA ES;obtain⟨Fi,hFi⟩:∃F,(An i.op&&By c i (Bh i.op))=F:=⟨_,rfl⟩
 rw[hFi]at HFIT hRP |-;obtain⟨V,hV⟩:=gA (Cr c.regs (BY i))
 rw[hV]at HVEC |-;obtain⟨R,hR⟩:=gA (AC i (Aa i.op))
 rw[hR]at HRD hR3 hRP |-;have hnest:=ok.nest;have hlast:=fun g q (e:ov=.slice (some ⟨g,0,none⟩) s.opens.length q)=>SK.last (e▸hs);obtain⟨p,q,rfl⟩:=Ap hs.opn;have hopn:0<s.opens.length->∃g,p=some ⟨g,0,none⟩:=fun h=>by
  obtain⟨g,cap,e,_⟩:=hs.opn.form h;simp only[Value.slice.injEq]at e;exact⟨g,e.1⟩
 obtain⟨ps,qs,rfl⟩:=Ap hs.set;have HSET:Hid (∀k,k<c.regs.length->∃g,ps=some ⟨g,0,none⟩/\w.cell? ⟨g,k,none⟩=some (.bool (decide (k∈s.set)))):=fun k hk=>by
  obtain⟨g,cap,e,_⟩:=hs.set.form oM;simp only[Value.slice.injEq]at e;obtain⟨rfl,-,-⟩:=e;exact⟨g,rfl,by rw[hs.set.cellAt k oM,CQ hk]⟩
 have hz:s.opens.length=0->Ar s=false:=fun h=>by
  obtain⟨S,O⟩:=s;cases O with
  |nil=>rfl
  |cons b r=>simp at h
 obtain⟨S,hS⟩:=gA (s.set)
 obtain⟨n,hn⟩:=gA (s.opens.length)
 obtain⟨lp,hlp⟩:∃l,Ar s=l:=⟨_,rfl⟩
 obtain⟨par,hpar⟩:∃l,B1 s=l:=⟨_,rfl⟩
 obtain⟨M,hMM⟩:=gA (c.regs.length)
 rw[hn]at hnest hlast hopn hz |-;rw[hlp]at hlast hz |-;rw[hpar]at hlast |-;rw[hS]at HSET |-;rw[hMM]at hM HSET hRP hlast |-;clear hFi hV hR hs ok po hv co hT hS hn hlp hpar hMM;obtain⟨op,D,A,Q,E,nn,bt⟩:=i;unfold BV at HFIT HVEC HRD |-;simp only at HFIT HVEC HRD hb0 hb1 |-;clear hb0 hb1;have HT0:Hid (TW w v0 v1 v2 v3 (w.heap.size+1) op D A Q E nn bt ((w.alloc (.cells #[v0,v1,v2,v3] 27)).alloc (.cells #[.int .i64 op,.int .i64 D,.int .i64 A,.int .i64 Q,.int .i64 E,.int .i64 nn,.int .u32 bt] 53))):=TW.start w v0 v1 v2 v3 op D A Q E nn bt;obtain⟨hb00,c0,c1,c2,c3,i0,i1,i2,i3,i4,i5,i6⟩:=HT0.out;have hcase:(n=0/\lp=false)\/(∃m g,m+1=n/\p=some ⟨g,0,none⟩/\lp=false/\w.cell? ⟨g,m*3,none⟩=some (.int .i64 34))\/(∃m g,m+1=n/\p=some ⟨g,0,none⟩/\lp=true/\w.cell? ⟨g,m*3,none⟩=some (.int .i64 36)/\w.cell? ⟨g,m*3+1,none⟩=some (.int .i64 par)):=by
  by_cases h0:n=0
  .exact .inl ⟨h0,hz h0⟩
  .obtain⟨g,rfl⟩:=hopn oM;obtain⟨X,u,-,-,a0,a1,-⟩:=hlast g q rfl oM;obtain⟨m,rfl⟩:∃m,n=m+1:=⟨n-1,oM⟩
   rw[Nat.add_sub_cancel]at a0 a1;cases lp
   .exact .inr (.inl ⟨m,g,rfl,rfl,rfl,a0⟩)
   .exact .inr (.inr ⟨m,g,rfl,rfl,rfl,a0,a1⟩)
 clear hlast hopn hz;have HRP:Hid (Fi=true->∀x∈R,0<=x/\x<(M:Int)):=hRP;clear hRP;obtain⟨RES,hRES⟩:∃X,(Fi&&(!(lp&&(op != 37&&V != par))&&((R.all fun n=>decide (n.toNat∈S))&&(if op=34\/op=36 then decide (n<64)else if op=35 then decide (0<n)&& !lp else if op=37 then lp else true))))=X:=⟨_,rfl⟩
 rw[hRES];cases Fi
 .have HQF:Hid (false=RES):=hRES;clear hRES;rcases hcase with⟨rfl,rfl⟩|⟨m,g,hm,rfl,rfl,z0⟩|⟨m,g,hm,rfl,rfl,z0,z1⟩
  .exact L7
  .have hw:IntKind.i64.wrap ((n:Int)-1)=(m:Int):=by rw[IntKind.wrap_i64];omega
   have x0:=kc hb00 z0;have j0:(0:Int)<(n:Int):=oM;have j1:(0:Int)<=(m:Int):=oM;have j2:(m:Int)<(n:Int):=oM;exact L7
  .have hw:IntKind.i64.wrap ((n:Int)-1)=(m:Int):=by rw[IntKind.wrap_i64];omega
   have x0:=kc hb00 z0;have j0:(0:Int)<(n:Int):=oM;have j1:(0:Int)<=(m:Int):=oM;have j2:(m:Int)<(n:Int):=oM;exact L7
 .rw[Bool.true_and]at hRES;have HRP1:Hid (∀x∈R,0<=x/\x<(M:Int)):=HRP.out rfl;clear HRP;rcases hcase with⟨hn0,rfl⟩|⟨m,g,hm,rfl,rfl,z0⟩|⟨m,g,hm,rfl,rfl,z0,z1⟩
  .rw[Bool.false_and,Bool.not_false,Bool.true_and]at hRES;have HR2:Hid (((R.all fun n=>decide (n.toNat∈S))&&(if op=34\/op=36 then decide (n<64)else if op=35 then decide (0<n)&& !false else if op=37 then false else true))=RES):=hRES;clear hRES;have j0:¬ (0:Int)<(n:Int):=oM;go_enter func35,ntmps35;go_wp2;refine rG (fun v=>v.cell? ⟨w.heap.size,0,none⟩=some v0/\v.cell? ⟨w.heap.size,1,none⟩=some v1/\v.cell? ⟨w.heap.size,2,none⟩=some v2/\v.cell? ⟨w.heap.size,3,none⟩=some v3/\v.cell? ⟨w.heap.size+1,0,none⟩=some (.int .i64 op)/\v.cell? ⟨w.heap.size+1,1,none⟩=some (.int .i64 D)/\v.cell? ⟨w.heap.size+1,2,none⟩=some (.int .i64 A)/\v.cell? ⟨w.heap.size+1,3,none⟩=some (.int .i64 Q)/\v.cell? ⟨w.heap.size+1,4,none⟩=some (.int .i64 E)/\v.cell? ⟨w.heap.size+1,5,none⟩=some (.int .i64 nn)/\v.cell? ⟨w.heap.size+1,6,none⟩=some (.int .u32 bt)) fun hJ=>?_;refine wpAnyH_take (i:=0) (v:=?_) A2 kR kR kR A3 (Or.inl ⟨rF,?_⟩) A4 ?_
   rotate_left 1
   ·(intro wS hSw;(try dsimp only at hSw);go_simp;try(with_reducible rfl))
   try simp only[Act.put,List.setIfInBounds_toArray,List.set_cons_zero,List.set_cons_succ]
   refine wpAnyH_take (i:=1) (v:=?_) A2 kR kR kR A3 (Or.inl ⟨rF,?_⟩) A4 ?_
   rotate_left 1
   ·(intro wS hSw;(try dsimp only at hSw);go_simp;try(with_reducible rfl))
   try simp only[Act.put,List.setIfInBounds_toArray,List.set_cons_zero,List.set_cons_succ]
   clear hJ;refine AH 2 fun K hK=>?_;go_simp;(go_at_call 51;(with_reducible refine(HFIT.out _ (bel HT0.out.bel (A7 _))).mono ?_);rintro e wz ⟨rfl,hbz⟩;have HBZ:Hid (Below ((w.alloc (.cells #[v0,v1,v2,v3] 27)).alloc (.cells #[.int .i64 op,.int .i64 D,.int .i64 A,.int .i64 Q,.int .i64 E,.int .i64 nn,.int .u32 bt] 53)).heap.size ((w.alloc (.cells #[v0,v1,v2,v3] 27)).alloc (.cells #[.int .i64 op,.int .i64 D,.int .i64 A,.int .i64 Q,.int .i64 E,.int .i64 nn,.int .u32 bt] 53)) wz):=bel (A7 _) hbz;clear hbz;obtain⟨-,c0,c1,c2,c3,i0,i1,i2,i3,i4,i5,i6⟩:=HT0.out.next HBZ.out);try(go_wp2_with fail)
   refine AJ hK fun hJ=>?_;clear hK K;refine wpAnyH_take (i:=3) (v:=?_) A2 kR kR kR A3 (Or.inl ⟨rF,?_⟩) A4 ?_
   rotate_left 1
   ·(intro wS hSw;(try dsimp only at hSw);go_simp;try(with_reducible rfl))
   try simp only[Act.put,List.setIfInBounds_toArray,List.set_cons_zero,List.set_cons_succ]
   refine wpAnyH_take (i:=4) (v:=?_) A2 kR kR kR A3 (Or.inl ⟨rF,?_⟩) A4 ?_
   rotate_left 1
   ·(intro wS hSw;(try dsimp only at hSw);go_simp;try(with_reducible rfl))
   try simp only[Act.put,List.setIfInBounds_toArray,List.set_cons_zero,List.set_cons_succ]
   refine wpAnyH_take (i:=5) (v:=?_) A2 kR kR kR A3 (Or.inl ⟨rF,?_⟩) A4 ?_
   rotate_left 1
   ·(intro wS hSw;(try dsimp only at hSw);go_simp;try(with_reducible rfl))
   try simp only[Act.put,List.setIfInBounds_toArray,List.set_cons_zero,List.set_cons_succ]
   refine wpAnyH_take (i:=6) (v:=?_) A2 kR kR kR A3 (Or.inl ⟨rF,?_⟩) A4 ?_
   rotate_left 1
   ·(intro wS hSw;(try dsimp only at hSw);go_simp;try(with_reducible rfl))
   try simp only[Act.put,List.setIfInBounds_toArray,List.set_cons_zero,List.set_cons_succ]
   refine wpAnyH_take (i:=7) (v:=undef) A2 kR kR kR A3 (Or.inr ⟨rF,rfl⟩) A4 ?_;try simp only[Act.put,List.setIfInBounds_toArray,List.set_cons_zero,List.set_cons_succ]
   refine wpAnyH_take (i:=8) (v:=undef) A2 kR kR kR A3 (Or.inr ⟨rF,rfl⟩) A4 ?_;try simp only[Act.put,List.setIfInBounds_toArray,List.set_cons_zero,List.set_cons_succ]
   refine wpAnyH_take (i:=9) (v:=undef) A2 kR kR kR A3 (Or.inr ⟨rF,rfl⟩) A4 ?_;try simp only[Act.put,List.setIfInBounds_toArray,List.set_cons_zero,List.set_cons_succ]
   refine wpAnyH_take (i:=10) (v:=?_) A2 kR kR kR A3 (Or.inl ⟨rF,?_⟩) A4 ?_
   rotate_left 1
   ·(intro wS hSw;(try dsimp only at hSw);go_simp;try(with_reducible rfl))
   try simp only[Act.put,List.setIfInBounds_toArray,List.set_cons_zero,List.set_cons_succ]
   refine wpAnyH_take (i:=11) (v:=?_) A2 kR kR kR A3 (Or.inl ⟨rF,?_⟩) A4 ?_
   rotate_left 1
   ·(intro wS hSw;(try dsimp only at hSw);go_simp;try(with_reducible rfl))
   try simp only[Act.put,List.setIfInBounds_toArray,List.set_cons_zero,List.set_cons_succ]
   refine wpAnyH_take (i:=12) (v:=undef) A2 kR kR kR A3 (Or.inr ⟨rF,rfl⟩) A4 ?_;try simp only[Act.put,List.setIfInBounds_toArray,List.set_cons_zero,List.set_cons_succ]
   refine wpAnyH_take (i:=13) (v:=undef) A2 kR kR kR A3 (Or.inr ⟨rF,rfl⟩) A4 ?_;try simp only[Act.put,List.setIfInBounds_toArray,List.set_cons_zero,List.set_cons_succ]
   refine wpAnyH_take (i:=14) (v:=undef) A2 kR kR kR A3 (Or.inr ⟨rF,rfl⟩) A4 ?_;try simp only[Act.put,List.setIfInBounds_toArray,List.set_cons_zero,List.set_cons_succ]
   refine wpAnyH_take (i:=15) (v:=undef) A2 kR kR kR A3 (Or.inr ⟨rF,rfl⟩) A4 ?_;try simp only[Act.put,List.setIfInBounds_toArray,List.set_cons_zero,List.set_cons_succ]
   refine wpAnyH_take (i:=16) (v:=undef) A2 kR kR kR A3 (Or.inr ⟨rF,rfl⟩) A4 ?_;try simp only[Act.put,List.setIfInBounds_toArray,List.set_cons_zero,List.set_cons_succ]
   refine wpAnyH_take (i:=17) (v:=undef) A2 kR kR kR A3 (Or.inr ⟨rF,rfl⟩) A4 ?_;try simp only[Act.put,List.setIfInBounds_toArray,List.set_cons_zero,List.set_cons_succ]
   refine wpAnyH_take (i:=18) (v:=undef) A2 kR kR kR A3 (Or.inr ⟨rF,rfl⟩) A4 ?_;try simp only[Act.put,List.setIfInBounds_toArray,List.set_cons_zero,List.set_cons_succ]
   refine wpAnyH_take (i:=19) (v:=undef) A2 kR kR kR A3 (Or.inr ⟨rF,rfl⟩) A4 ?_;try simp only[Act.put,List.setIfInBounds_toArray,List.set_cons_zero,List.set_cons_succ]
   refine wpAnyH_take (i:=20) (v:=undef) A2 kR kR kR A3 (Or.inr ⟨rF,rfl⟩) A4 ?_;try simp only[Act.put,List.setIfInBounds_toArray,List.set_cons_zero,List.set_cons_succ]
   refine wpAnyH_take (i:=21) (v:=undef) A2 kR kR kR A3 (Or.inr ⟨rF,rfl⟩) A4 ?_;try simp only[Act.put,List.setIfInBounds_toArray,List.set_cons_zero,List.set_cons_succ]
   refine wpAnyH_take (i:=22) (v:=undef) A2 kR kR kR A3 (Or.inr ⟨rF,rfl⟩) A4 ?_;try simp only[Act.put,List.setIfInBounds_toArray,List.set_cons_zero,List.set_cons_succ]
   refine wpAnyH_take (i:=23) (v:=?_) A2 kR kR kR A3 (Or.inl ⟨rF,?_⟩) A4 ?_
   rotate_left 1
   ·(intro wS hSw;(try dsimp only at hSw);go_simp;try(with_reducible rfl))
   try simp only[Act.put,List.setIfInBounds_toArray,List.set_cons_zero,List.set_cons_succ]
   refine wpAnyH_take (i:=24) (v:=?_) A2 kR kR kR A3 (Or.inl ⟨rF,?_⟩) A4 ?_
   rotate_left 1
   ·(intro wS hSw;(try dsimp only at hSw);go_simp;try(with_reducible rfl))
   try simp only[Act.put,List.setIfInBounds_toArray,List.set_cons_zero,List.set_cons_succ]
   refine wpAnyH_done kR ?_ _;clear j0;exact L8
  .rw[Bool.false_and,Bool.not_false,Bool.true_and]at hRES;have HR2:Hid (((R.all fun n=>decide (n.toNat∈S))&&(if op=34\/op=36 then decide (n<64)else if op=35 then decide (0<n)&& !false else if op=37 then false else true))=RES):=hRES;clear hRES;have hw:IntKind.i64.wrap ((n:Int)-1)=(m:Int):=by rw[IntKind.wrap_i64];omega
   have x0:=kc hb00 z0;have j0:(0:Int)<(n:Int):=oM;have j1:(0:Int)<=(m:Int):=oM;have j2:(m:Int)<(n:Int):=oM;go_enter func35,ntmps35;go_wp2;refine rG (fun v=>v.cell? ⟨w.heap.size,0,none⟩=some v0/\v.cell? ⟨w.heap.size,1,none⟩=some v1/\v.cell? ⟨w.heap.size,2,none⟩=some v2/\v.cell? ⟨w.heap.size,3,none⟩=some v3/\v.cell? ⟨w.heap.size+1,0,none⟩=some (.int .i64 op)/\v.cell? ⟨w.heap.size+1,1,none⟩=some (.int .i64 D)/\v.cell? ⟨w.heap.size+1,2,none⟩=some (.int .i64 A)/\v.cell? ⟨w.heap.size+1,3,none⟩=some (.int .i64 Q)/\v.cell? ⟨w.heap.size+1,4,none⟩=some (.int .i64 E)/\v.cell? ⟨w.heap.size+1,5,none⟩=some (.int .i64 nn)/\v.cell? ⟨w.heap.size+1,6,none⟩=some (.int .u32 bt)) fun hJ=>?_;refine wpAnyH_take (i:=0) (v:=?_) A2 kR kR kR A3 (Or.inl ⟨rF,?_⟩) A4 ?_
   rotate_left 1
   ·(intro wS hSw;(try dsimp only at hSw);go_simp;try(with_reducible rfl))
   try simp only[Act.put,List.setIfInBounds_toArray,List.set_cons_zero,List.set_cons_succ]
   refine wpAnyH_take (i:=1) (v:=?_) A2 kR kR kR A3 (Or.inl ⟨rF,?_⟩) A4 ?_
   rotate_left 1
   ·(intro wS hSw;(try dsimp only at hSw);go_simp;try(with_reducible rfl))
   try simp only[Act.put,List.setIfInBounds_toArray,List.set_cons_zero,List.set_cons_succ]
   clear hJ;refine AH 2 fun K hK=>?_;go_simp;(go_at_call 51;(with_reducible refine(HFIT.out _ (bel HT0.out.bel (A7 _))).mono ?_);rintro e wz ⟨rfl,hbz⟩;have HBZ:Hid (Below ((w.alloc (.cells #[v0,v1,v2,v3] 27)).alloc (.cells #[.int .i64 op,.int .i64 D,.int .i64 A,.int .i64 Q,.int .i64 E,.int .i64 nn,.int .u32 bt] 53)).heap.size ((w.alloc (.cells #[v0,v1,v2,v3] 27)).alloc (.cells #[.int .i64 op,.int .i64 D,.int .i64 A,.int .i64 Q,.int .i64 E,.int .i64 nn,.int .u32 bt] 53)) wz):=bel (A7 _) hbz;clear hbz;obtain⟨-,c0,c1,c2,c3,i0,i1,i2,i3,i4,i5,i6⟩:=HT0.out.next HBZ.out);try(go_wp2_with fail)
   refine AJ hK fun hJ=>?_;clear hK K;refine wpAnyH_take (i:=3) (v:=?_) A2 kR kR kR A3 (Or.inl ⟨rF,?_⟩) A4 ?_
   rotate_left 1
   ·(intro wS hSw;(try dsimp only at hSw);go_simp;try(with_reducible rfl))
   try simp only[Act.put,List.setIfInBounds_toArray,List.set_cons_zero,List.set_cons_succ]
   refine wpAnyH_take (i:=4) (v:=?_) A2 kR kR kR A3 (Or.inl ⟨rF,?_⟩) A4 ?_
   rotate_left 1
   ·(intro wS hSw;(try dsimp only at hSw);go_simp;try(with_reducible rfl))
   try simp only[Act.put,List.setIfInBounds_toArray,List.set_cons_zero,List.set_cons_succ]
   refine wpAnyH_take (i:=5) (v:=?_) A2 kR kR kR A3 (Or.inl ⟨rF,?_⟩) A4 ?_
   rotate_left 1
   ·(intro wS hSw;(try dsimp only at hSw);go_simp;try(with_reducible rfl))
   try simp only[Act.put,List.setIfInBounds_toArray,List.set_cons_zero,List.set_cons_succ]
   refine wpAnyH_take (i:=6) (v:=?_) A2 kR kR kR A3 (Or.inl ⟨rF,?_⟩) A4 ?_
   rotate_left 1
   ·(intro wS hSw;(try dsimp only at hSw);go_simp;try(with_reducible rfl))
   try simp only[Act.put,List.setIfInBounds_toArray,List.set_cons_zero,List.set_cons_succ]
   refine wpAnyH_take (i:=7) (v:=undef) A2 kR kR kR A3 (Or.inr ⟨rF,rfl⟩) A4 ?_;try simp only[Act.put,List.setIfInBounds_toArray,List.set_cons_zero,List.set_cons_succ]
   refine wpAnyH_take (i:=8) (v:=undef) A2 kR kR kR A3 (Or.inr ⟨rF,rfl⟩) A4 ?_;try simp only[Act.put,List.setIfInBounds_toArray,List.set_cons_zero,List.set_cons_succ]
   refine wpAnyH_take (i:=9) (v:=undef) A2 kR kR kR A3 (Or.inr ⟨rF,rfl⟩) A4 ?_;try simp only[Act.put,List.setIfInBounds_toArray,List.set_cons_zero,List.set_cons_succ]
   refine wpAnyH_take (i:=10) (v:=?_) A2 kR kR kR A3 (Or.inl ⟨rF,?_⟩) A4 ?_
   rotate_left 1
   ·(intro wS hSw;(try dsimp only at hSw);go_simp;try(with_reducible rfl))
   try simp only[Act.put,List.setIfInBounds_toArray,List.set_cons_zero,List.set_cons_succ]
   refine wpAnyH_take (i:=11) (v:=?_) A2 kR kR kR A3 (Or.inl ⟨rF,?_⟩) A4 ?_
   rotate_left 1
   ·(intro wS hSw;(try dsimp only at hSw);go_simp;try(with_reducible rfl))
   try simp only[Act.put,List.setIfInBounds_toArray,List.set_cons_zero,List.set_cons_succ]
   refine wpAnyH_take (i:=12) (v:=undef) A2 kR kR kR A3 (Or.inr ⟨rF,rfl⟩) A4 ?_;try simp only[Act.put,List.setIfInBounds_toArray,List.set_cons_zero,List.set_cons_succ]
   refine wpAnyH_take (i:=13) (v:=undef) A2 kR kR kR A3 (Or.inr ⟨rF,rfl⟩) A4 ?_;try simp only[Act.put,List.setIfInBounds_toArray,List.set_cons_zero,List.set_cons_succ]
   refine wpAnyH_take (i:=14) (v:=undef) A2 kR kR kR A3 (Or.inr ⟨rF,rfl⟩) A4 ?_;try simp only[Act.put,List.setIfInBounds_toArray,List.set_cons_zero,List.set_cons_succ]
   refine wpAnyH_take (i:=15) (v:=undef) A2 kR kR kR A3 (Or.inr ⟨rF,rfl⟩) A4 ?_;try simp only[Act.put,List.setIfInBounds_toArray,List.set_cons_zero,List.set_cons_succ]
   refine wpAnyH_take (i:=16) (v:=undef) A2 kR kR kR A3 (Or.inr ⟨rF,rfl⟩) A4 ?_;try simp only[Act.put,List.setIfInBounds_toArray,List.set_cons_zero,List.set_cons_succ]
   refine wpAnyH_take (i:=17) (v:=undef) A2 kR kR kR A3 (Or.inr ⟨rF,rfl⟩) A4 ?_;try simp only[Act.put,List.setIfInBounds_toArray,List.set_cons_zero,List.set_cons_succ]
   refine wpAnyH_take (i:=18) (v:=undef) A2 kR kR kR A3 (Or.inr ⟨rF,rfl⟩) A4 ?_;try simp only[Act.put,List.setIfInBounds_toArray,List.set_cons_zero,List.set_cons_succ]
   refine wpAnyH_take (i:=19) (v:=undef) A2 kR kR kR A3 (Or.inr ⟨rF,rfl⟩) A4 ?_;try simp only[Act.put,List.setIfInBounds_toArray,List.set_cons_zero,List.set_cons_succ]
   refine wpAnyH_take (i:=20) (v:=undef) A2 kR kR kR A3 (Or.inr ⟨rF,rfl⟩) A4 ?_;try simp only[Act.put,List.setIfInBounds_toArray,List.set_cons_zero,List.set_cons_succ]
   refine wpAnyH_take (i:=21) (v:=undef) A2 kR kR kR A3 (Or.inr ⟨rF,rfl⟩) A4 ?_;try simp only[Act.put,List.setIfInBounds_toArray,List.set_cons_zero,List.set_cons_succ]
   refine wpAnyH_take (i:=22) (v:=undef) A2 kR kR kR A3 (Or.inr ⟨rF,rfl⟩) A4 ?_;try simp only[Act.put,List.setIfInBounds_toArray,List.set_cons_zero,List.set_cons_succ]
   refine wpAnyH_take (i:=23) (v:=?_) A2 kR kR kR A3 (Or.inl ⟨rF,?_⟩) A4 ?_
   rotate_left 1
   ·(intro wS hSw;(try dsimp only at hSw);go_simp;try(with_reducible rfl))
   try simp only[Act.put,List.setIfInBounds_toArray,List.set_cons_zero,List.set_cons_succ]
   refine wpAnyH_take (i:=24) (v:=?_) A2 kR kR kR A3 (Or.inl ⟨rF,?_⟩) A4 ?_
   rotate_left 1
   ·(intro wS hSw;(try dsimp only at hSw);go_simp;try(with_reducible rfl))
   try simp only[Act.put,List.setIfInBounds_toArray,List.set_cons_zero,List.set_cons_succ]
   refine wpAnyH_done kR ?_ _;clear j0 j1 j2 hw;exact L8
  .rw[Bool.true_and]at hRES;have hw:IntKind.i64.wrap ((n:Int)-1)=(m:Int):=by rw[IntKind.wrap_i64];omega
   have x0:=kc hb00 z0;have j0:(0:Int)<(n:Int):=oM;have j1:(0:Int)<=(m:Int):=oM;have j2:(m:Int)<(n:Int):=oM;have y1:=kc hb00 z1;by_cases h7:op=37
   .subst h7;rw[show((37:Int) != 37)=false from rfl,Bool.false_and,Bool.not_false,Bool.true_and]at hRES;have HR2:Hid (((R.all fun n=>decide (n.toNat∈S))&&(if(37:Int)=34\/(37:Int)=36 then decide (n<64)else if(37:Int)=35 then decide (0<n)&& !true else if(37:Int)=37 then true else true))=RES):=hRES;clear hRES;go_enter func35,ntmps35;go_wp2;refine rG (fun v=>v.cell? ⟨w.heap.size,0,none⟩=some v0/\v.cell? ⟨w.heap.size,1,none⟩=some v1/\v.cell? ⟨w.heap.size,2,none⟩=some v2/\v.cell? ⟨w.heap.size,3,none⟩=some v3/\v.cell? ⟨w.heap.size+1,0,none⟩=some (.int .i64 37)/\v.cell? ⟨w.heap.size+1,1,none⟩=some (.int .i64 D)/\v.cell? ⟨w.heap.size+1,2,none⟩=some (.int .i64 A)/\v.cell? ⟨w.heap.size+1,3,none⟩=some (.int .i64 Q)/\v.cell? ⟨w.heap.size+1,4,none⟩=some (.int .i64 E)/\v.cell? ⟨w.heap.size+1,5,none⟩=some (.int .i64 nn)/\v.cell? ⟨w.heap.size+1,6,none⟩=some (.int .u32 bt)) fun hJ=>?_;refine wpAnyH_take (i:=0) (v:=?_) A2 kR kR kR A3 (Or.inl ⟨rF,?_⟩) A4 ?_
    rotate_left 1
    ·(intro wS hSw;(try dsimp only at hSw);go_simp;try(with_reducible rfl))
    try simp only[Act.put,List.setIfInBounds_toArray,List.set_cons_zero,List.set_cons_succ]
    refine wpAnyH_take (i:=1) (v:=?_) A2 kR kR kR A3 (Or.inl ⟨rF,?_⟩) A4 ?_
    rotate_left 1
    ·(intro wS hSw;(try dsimp only at hSw);go_simp;try(with_reducible rfl))
    try simp only[Act.put,List.setIfInBounds_toArray,List.set_cons_zero,List.set_cons_succ]
    clear hJ;refine AH 2 fun K hK=>?_;go_simp;(go_at_call 51;(with_reducible refine(HFIT.out _ (bel HT0.out.bel (A7 _))).mono ?_);rintro e wz ⟨rfl,hbz⟩;have HBZ:Hid (Below ((w.alloc (.cells #[v0,v1,v2,v3] 27)).alloc (.cells #[.int .i64 37,.int .i64 D,.int .i64 A,.int .i64 Q,.int .i64 E,.int .i64 nn,.int .u32 bt] 53)).heap.size ((w.alloc (.cells #[v0,v1,v2,v3] 27)).alloc (.cells #[.int .i64 37,.int .i64 D,.int .i64 A,.int .i64 Q,.int .i64 E,.int .i64 nn,.int .u32 bt] 53)) wz):=bel (A7 _) hbz;clear hbz;obtain⟨-,c0,c1,c2,c3,i0,i1,i2,i3,i4,i5,i6⟩:=HT0.out.next HBZ.out);try(go_wp2_with fail)
    refine AJ hK fun hJ=>?_;clear hK K;refine wpAnyH_take (i:=3) (v:=?_) A2 kR kR kR A3 (Or.inl ⟨rF,?_⟩) A4 ?_
    rotate_left 1
    ·(intro wS hSw;(try dsimp only at hSw);go_simp;try(with_reducible rfl))
    try simp only[Act.put,List.setIfInBounds_toArray,List.set_cons_zero,List.set_cons_succ]
    refine wpAnyH_take (i:=4) (v:=?_) A2 kR kR kR A3 (Or.inl ⟨rF,?_⟩) A4 ?_
    rotate_left 1
    ·(intro wS hSw;(try dsimp only at hSw);go_simp;try(with_reducible rfl))
    try simp only[Act.put,List.setIfInBounds_toArray,List.set_cons_zero,List.set_cons_succ]
    refine wpAnyH_take (i:=5) (v:=?_) A2 kR kR kR A3 (Or.inl ⟨rF,?_⟩) A4 ?_
    rotate_left 1
    ·(intro wS hSw;(try dsimp only at hSw);go_simp;try(with_reducible rfl))
    try simp only[Act.put,List.setIfInBounds_toArray,List.set_cons_zero,List.set_cons_succ]
    refine wpAnyH_take (i:=6) (v:=?_) A2 kR kR kR A3 (Or.inl ⟨rF,?_⟩) A4 ?_
    rotate_left 1
    ·(intro wS hSw;(try dsimp only at hSw);go_simp;try(with_reducible rfl))
    try simp only[Act.put,List.setIfInBounds_toArray,List.set_cons_zero,List.set_cons_succ]
    refine wpAnyH_take (i:=7) (v:=?_) A2 kR kR kR A3 (Or.inl ⟨rF,?_⟩) A4 ?_
    rotate_left 1
    ·(intro wS hSw;(try dsimp only at hSw);go_simp;try(with_reducible rfl))
    try simp only[Act.put,List.setIfInBounds_toArray,List.set_cons_zero,List.set_cons_succ]
    refine wpAnyH_take (i:=8) (v:=?_) A2 kR kR kR A3 (Or.inl ⟨rF,?_⟩) A4 ?_
    rotate_left 1
    ·(intro wS hSw;(try dsimp only at hSw);go_simp;try(with_reducible rfl))
    try simp only[Act.put,List.setIfInBounds_toArray,List.set_cons_zero,List.set_cons_succ]
    refine wpAnyH_take (i:=9) (v:=?_) A2 kR kR kR A3 (Or.inl ⟨rF,?_⟩) A4 ?_
    rotate_left 1
    ·(intro wS hSw;(try dsimp only at hSw);go_simp;try(with_reducible rfl))
    try simp only[Act.put,List.setIfInBounds_toArray,List.set_cons_zero,List.set_cons_succ]
    refine wpAnyH_take (i:=10) (v:=?_) A2 kR kR kR A3 (Or.inl ⟨rF,?_⟩) A4 ?_
    rotate_left 1
    ·(intro wS hSw;(try dsimp only at hSw);go_simp;try(with_reducible rfl))
    try simp only[Act.put,List.setIfInBounds_toArray,List.set_cons_zero,List.set_cons_succ]
    refine wpAnyH_take (i:=11) (v:=?_) A2 kR kR kR A3 (Or.inl ⟨rF,?_⟩) A4 ?_
    rotate_left 1
    ·(intro wS hSw;(try dsimp only at hSw);go_simp;try(with_reducible rfl))
    try simp only[Act.put,List.setIfInBounds_toArray,List.set_cons_zero,List.set_cons_succ]
    refine wpAnyH_take (i:=12) (v:=undef) A2 kR kR kR A3 (Or.inr ⟨rF,rfl⟩) A4 ?_;try simp only[Act.put,List.setIfInBounds_toArray,List.set_cons_zero,List.set_cons_succ]
    refine wpAnyH_take (i:=13) (v:=undef) A2 kR kR kR A3 (Or.inr ⟨rF,rfl⟩) A4 ?_;try simp only[Act.put,List.setIfInBounds_toArray,List.set_cons_zero,List.set_cons_succ]
    refine wpAnyH_take (i:=14) (v:=undef) A2 kR kR kR A3 (Or.inr ⟨rF,rfl⟩) A4 ?_;try simp only[Act.put,List.setIfInBounds_toArray,List.set_cons_zero,List.set_cons_succ]
    refine wpAnyH_take (i:=15) (v:=undef) A2 kR kR kR A3 (Or.inr ⟨rF,rfl⟩) A4 ?_;try simp only[Act.put,List.setIfInBounds_toArray,List.set_cons_zero,List.set_cons_succ]
    refine wpAnyH_take (i:=16) (v:=undef) A2 kR kR kR A3 (Or.inr ⟨rF,rfl⟩) A4 ?_;try simp only[Act.put,List.setIfInBounds_toArray,List.set_cons_zero,List.set_cons_succ]
    refine wpAnyH_take (i:=17) (v:=undef) A2 kR kR kR A3 (Or.inr ⟨rF,rfl⟩) A4 ?_;try simp only[Act.put,List.setIfInBounds_toArray,List.set_cons_zero,List.set_cons_succ]
    refine wpAnyH_take (i:=18) (v:=undef) A2 kR kR kR A3 (Or.inr ⟨rF,rfl⟩) A4 ?_;try simp only[Act.put,List.setIfInBounds_toArray,List.set_cons_zero,List.set_cons_succ]
    refine wpAnyH_take (i:=19) (v:=undef) A2 kR kR kR A3 (Or.inr ⟨rF,rfl⟩) A4 ?_;try simp only[Act.put,List.setIfInBounds_toArray,List.set_cons_zero,List.set_cons_succ]
    refine wpAnyH_take (i:=20) (v:=undef) A2 kR kR kR A3 (Or.inr ⟨rF,rfl⟩) A4 ?_;try simp only[Act.put,List.setIfInBounds_toArray,List.set_cons_zero,List.set_cons_succ]
    refine wpAnyH_take (i:=21) (v:=undef) A2 kR kR kR A3 (Or.inr ⟨rF,rfl⟩) A4 ?_;try simp only[Act.put,List.setIfInBounds_toArray,List.set_cons_zero,List.set_cons_succ]
    refine wpAnyH_take (i:=22) (v:=undef) A2 kR kR kR A3 (Or.inr ⟨rF,rfl⟩) A4 ?_;try simp only[Act.put,List.setIfInBounds_toArray,List.set_cons_zero,List.set_cons_succ]
    refine wpAnyH_take (i:=23) (v:=?_) A2 kR kR kR A3 (Or.inl ⟨rF,?_⟩) A4 ?_
    rotate_left 1
    ·(intro wS hSw;(try dsimp only at hSw);go_simp;try(with_reducible rfl))
    try simp only[Act.put,List.setIfInBounds_toArray,List.set_cons_zero,List.set_cons_succ]
    refine wpAnyH_take (i:=24) (v:=?_) A2 kR kR kR A3 (Or.inl ⟨rF,?_⟩) A4 ?_
    rotate_left 1
    ·(intro wS hSw;(try dsimp only at hSw);go_simp;try(with_reducible rfl))
    try simp only[Act.put,List.setIfInBounds_toArray,List.set_cons_zero,List.set_cons_succ]
    refine wpAnyH_done kR ?_ _;clear j0 j1 j2 hw y1;have HTZ:Hid (TW w v0 v1 v2 v3 (w.heap.size+1) 37 D A Q E nn bt wz):=HT0.out.next HBZ.out;go_wp2_with(go_at_call 53;(with_reducible refine(HRD.out _).mono ?_);rintro e w5 ⟨u,rfl,hou,hb5⟩;obtain⟨pu,qu,rfl⟩:=Ap hou;have HOU:Hid (w5.ownsRow wz.heap.size 3 1 (.slice pu R.length qu) R.length (Bb R)):=hou;have HB5:Hid (Below wz.heap.size wz w5):=hb5;clear hou hb5)
    go_loopw [11] (fun kv wr=>∃k:Nat,k<=R.length/\kv=.int .i64 (k:Int)/\wr=w5/\∀x∈R.take k,x.toNat∈S) (fun kv _=>R.length-(intOf kv).toNat)
    case atStart=>exact⟨0,gI _,rfl,rfl,fun x hx=>by simp at hx⟩
    case round=>
     obtain⟨k,hk,rfl,rfl,hin⟩:=hrel;clear c0 c1 c2 c3 i0 i1 i2 i3 i4 i5 i6;obtain⟨hbq,c0,c1,c2,c3,i0,i1,i2,i3,i4,i5,i6⟩:=HTZ.next HB5.out;by_cases hlt:k<R.length
     .have hx:=HRP1.out R[k] (gD hlt);obtain⟨d,hd⟩:∃d:Nat,R[k]=(d:Int):=⟨R[k].toNat,oM⟩
      obtain⟨gs,rfl,hcs⟩:=HSET.out d oM;have hcs':=kc hbq hcs;obtain⟨gu,cu,eu,-⟩:=HOU.form oM;simp only[Value.slice.injEq]at eu;obtain⟨rfl,-,rfl⟩:=eu;have hcu:wr.cell? ⟨gu,k,none⟩=some (.int .i64 (d:Int)):=by rw[HOU.cellAt k oM];simp[Bb,hlt,hd]
      have HMEM:Hid (R[k]=(d:Int)):=hd;have HIN:Hid (∀x∈R.take k,x.toNat∈S):=hin;have t0:(0:Int)<=(k:Int):=oM;have t1:(k:Int)<(R.length:Int):=oM;have t2:(0:Int)<=(d:Int):=oM;have t3:(d:Int)<(M:Int):=oM;have wk:IntKind.i64.wrap ((k:Int)+1)=((k+1:Nat):Int):=by rw[IntKind.wrap_i64];omega
      clear hx hd hin hcs hk;cases hX:decide (d∈S)
      .rw[hX]at hcs';have hall:(R.all fun n=>decide (n.toNat∈S))=false:=by
        rw[List.all_eq_false];exact⟨R[k],gD hlt,by rw[HMEM.out,Int.toNat_natCast,hX];decide⟩
       have HQF:Hid (false=RES):=by show _=_;have:=HR2.out;rw[hall,Bool.false_and]at this;exact this
       clear hX hall;go_wp2;go_ret;exact⟨A6 HQF.out,hbq⟩
      .rw[hX]at hcs';have HX:Hid (d∈S):=by show d∈S;exact of_decide_eq_true hX
       clear hX;go_wp2;go_roundw
       case rel=>
        refine⟨k+1,oM,gN,fT,fun x hx=>?_⟩;rw[List.take_succ_eq_append_getElem hlt,List.mem_append]at hx;rcases hx with hx|hx
        .exact HIN.out x hx
        .simp only[List.mem_singleton]at hx;rw[hx,HMEM.out,Int.toNat_natCast];exact HX.out
       case measure=>simp[intOf];omega
     .have hkk:k=R.length:=oM;have hall:(R.all fun n=>decide (n.toNat∈S))=true:=by
       rw[List.all_eq_true];intro x hx;rw[hkk,List.take_length]at hin;simpa using hin x hx
      have h9:=HR2.out;rw[hall,Bool.true_and]at h9;have HTS:Hid _:=h9;clear h9;have t1:¬ (k:Int)<(R.length:Int):=oM;clear hall hin hk hlt;have HQ:Hid (true=RES):=by show _=_;have:=HTS.out;simpa using this
      go_wp2;go_ret;exact⟨A6 HQ.out,hbq⟩
   .have h7':(op != 37)=true:=by simpa using h7
    have h7b:(op==37)=false:=by simpa using h7
    rw[h7',Bool.true_and]at hRES;cases hVV:(V != par)
    .rw[hVV,Bool.not_false,Bool.true_and]at hRES;have HR2:Hid (((R.all fun n=>decide (n.toNat∈S))&&(if op=34\/op=36 then decide (n<64)else if op=35 then decide (0<n)&& !true else if op=37 then true else true))=RES):=hRES;clear hRES;have hVb:(V==par)=true:=by simpa using hVV
     go_enter func35,ntmps35;go_wp2;refine rG (fun v=>v.cell? ⟨g,m*3+1,none⟩=some (.int .i64 par)/\v.cell? ⟨w.heap.size,0,none⟩=some v0/\v.cell? ⟨w.heap.size,1,none⟩=some v1/\v.cell? ⟨w.heap.size,2,none⟩=some v2/\v.cell? ⟨w.heap.size,3,none⟩=some v3/\v.cell? ⟨w.heap.size+1,0,none⟩=some (.int .i64 op)/\v.cell? ⟨w.heap.size+1,1,none⟩=some (.int .i64 D)/\v.cell? ⟨w.heap.size+1,2,none⟩=some (.int .i64 A)/\v.cell? ⟨w.heap.size+1,3,none⟩=some (.int .i64 Q)/\v.cell? ⟨w.heap.size+1,4,none⟩=some (.int .i64 E)/\v.cell? ⟨w.heap.size+1,5,none⟩=some (.int .i64 nn)/\v.cell? ⟨w.heap.size+1,6,none⟩=some (.int .u32 bt)) fun hJ=>?_;refine wpAnyH_take (i:=0) (v:=?_) A2 kR kR kR A3 (Or.inl ⟨rF,?_⟩) A4 ?_
     rotate_left 1
     ·(intro wS hSw;(try dsimp only at hSw);go_simp;try(with_reducible rfl))
     try simp only[Act.put,List.setIfInBounds_toArray,List.set_cons_zero,List.set_cons_succ]
     refine wpAnyH_take (i:=1) (v:=?_) A2 kR kR kR A3 (Or.inl ⟨rF,?_⟩) A4 ?_
     rotate_left 1
     ·(intro wS hSw;(try dsimp only at hSw);go_simp;try(with_reducible rfl))
     try simp only[Act.put,List.setIfInBounds_toArray,List.set_cons_zero,List.set_cons_succ]
     clear hJ;refine AH 2 fun K hK=>?_;go_simp;(go_at_call 51;(with_reducible refine(HFIT.out _ (bel HT0.out.bel (A7 _))).mono ?_);rintro e w1 ⟨rfl,hb1⟩;have HB1:Hid (Below ((w.alloc (.cells #[v0,v1,v2,v3] 27)).alloc (.cells #[.int .i64 op,.int .i64 D,.int .i64 A,.int .i64 Q,.int .i64 E,.int .i64 nn,.int .u32 bt] 53)).heap.size ((w.alloc (.cells #[v0,v1,v2,v3] 27)).alloc (.cells #[.int .i64 op,.int .i64 D,.int .i64 A,.int .i64 Q,.int .i64 E,.int .i64 nn,.int .u32 bt] 53)) w1):=bel (A7 _) hb1;clear hb1;obtain⟨-,c0,c1,c2,c3,i0,i1,i2,i3,i4,i5,i6⟩:=HT0.out.next HB1.out;have y1:=kc (bel HT0.out.bel HB1.out) z1);try(go_wp2_with fail)
     refine AJ hK fun hJ=>?_;clear hK K;refine wpAnyH_take (i:=3) (v:=?_) A2 kR kR kR A3 (Or.inl ⟨rF,?_⟩) A4 ?_
     rotate_left 1
     ·(intro wS hSw;(try dsimp only at hSw);go_simp;try(with_reducible rfl))
     try simp only[Act.put,List.setIfInBounds_toArray,List.set_cons_zero,List.set_cons_succ]
     refine wpAnyH_take (i:=4) (v:=?_) A2 kR kR kR A3 (Or.inl ⟨rF,?_⟩) A4 ?_
     rotate_left 1
     ·(intro wS hSw;(try dsimp only at hSw);go_simp;try(with_reducible rfl))
     try simp only[Act.put,List.setIfInBounds_toArray,List.set_cons_zero,List.set_cons_succ]
     refine wpAnyH_take (i:=5) (v:=?_) A2 kR kR kR A3 (Or.inl ⟨rF,?_⟩) A4 ?_
     rotate_left 1
     ·(intro wS hSw;(try dsimp only at hSw);go_simp;try(with_reducible rfl))
     try simp only[Act.put,List.setIfInBounds_toArray,List.set_cons_zero,List.set_cons_succ]
     refine wpAnyH_take (i:=6) (v:=?_) A2 kR kR kR A3 (Or.inl ⟨rF,?_⟩) A4 ?_
     rotate_left 1
     ·(intro wS hSw;(try dsimp only at hSw);go_simp;try(with_reducible rfl))
     try simp only[Act.put,List.setIfInBounds_toArray,List.set_cons_zero,List.set_cons_succ]
     refine wpAnyH_take (i:=7) (v:=?_) A2 kR kR kR A3 (Or.inl ⟨rF,?_⟩) A4 ?_
     rotate_left 1
     ·(intro wS hSw;(try dsimp only at hSw);go_simp;try(with_reducible rfl))
     try simp only[Act.put,List.setIfInBounds_toArray,List.set_cons_zero,List.set_cons_succ]
     refine wpAnyH_take (i:=8) (v:=?_) A2 kR kR kR A3 (Or.inl ⟨rF,?_⟩) A4 ?_
     rotate_left 1
     ·(intro wS hSw;(try dsimp only at hSw);go_simp;try(with_reducible rfl))
     try simp only[Act.put,List.setIfInBounds_toArray,List.set_cons_zero,List.set_cons_succ]
     refine wpAnyH_take (i:=9) (v:=?_) A2 kR kR kR A3 (Or.inl ⟨rF,?_⟩) A4 ?_
     rotate_left 1
     ·(intro wS hSw;(try dsimp only at hSw);go_simp;try(with_reducible rfl))
     try simp only[Act.put,List.setIfInBounds_toArray,List.set_cons_zero,List.set_cons_succ]
     refine wpAnyH_take (i:=10) (v:=?_) A2 kR kR kR A3 (Or.inl ⟨rF,?_⟩) A4 ?_
     rotate_left 1
     ·(intro wS hSw;(try dsimp only at hSw);go_simp;try(with_reducible rfl))
     try simp only[Act.put,List.setIfInBounds_toArray,List.set_cons_zero,List.set_cons_succ]
     refine wpAnyH_take (i:=11) (v:=?_) A2 kR kR kR A3 (Or.inl ⟨rF,?_⟩) A4 ?_
     rotate_left 1
     ·(intro wS hSw;(try dsimp only at hSw);go_simp;try(with_reducible rfl))
     try simp only[Act.put,List.setIfInBounds_toArray,List.set_cons_zero,List.set_cons_succ]
     refine wpAnyH_take (i:=12) (v:=?_) A2 kR kR kR A3 (Or.inl ⟨rF,?_⟩) A4 ?_
     rotate_left 1
     ·(intro wS hSw;(try dsimp only at hSw);go_simp;try(with_reducible rfl))
     try simp only[Act.put,List.setIfInBounds_toArray,List.set_cons_zero,List.set_cons_succ]
     refine wpAnyH_take (i:=13) (v:=?_) A2 kR kR kR A3 (Or.inl ⟨rF,?_⟩) A4 ?_
     rotate_left 1
     ·(intro wS hSw;(try dsimp only at hSw);go_simp;try(with_reducible rfl))
     try simp only[Act.put,List.setIfInBounds_toArray,List.set_cons_zero,List.set_cons_succ]
     refine wpAnyH_take (i:=15) (v:=?_) A2 kR kR kR A3 (Or.inl ⟨rF,?_⟩) A4 ?_
     rotate_left 1
     ·(intro wS hSw;(try dsimp only at hSw);go_simp;try(with_reducible rfl))
     try simp only[Act.put,List.setIfInBounds_toArray,List.set_cons_zero,List.set_cons_succ]
     refine wpAnyH_take (i:=16) (v:=?_) A2 kR kR kR A3 (Or.inl ⟨rF,?_⟩) A4 ?_
     rotate_left 1
     ·(intro wS hSw;(try dsimp only at hSw);go_simp;try(with_reducible rfl))
     try simp only[Act.put,List.setIfInBounds_toArray,List.set_cons_zero,List.set_cons_succ]
     refine wpAnyH_take (i:=17) (v:=?_) A2 kR kR kR A3 (Or.inl ⟨rF,?_⟩) A4 ?_
     rotate_left 1
     ·(intro wS hSw;(try dsimp only at hSw);go_simp;try(with_reducible rfl))
     try simp only[Act.put,List.setIfInBounds_toArray,List.set_cons_zero,List.set_cons_succ]
     refine wpAnyH_take (i:=18) (v:=?_) A2 kR kR kR A3 (Or.inl ⟨rF,?_⟩) A4 ?_
     rotate_left 1
     ·(intro wS hSw;(try dsimp only at hSw);go_simp;try(with_reducible rfl))
     try simp only[Act.put,List.setIfInBounds_toArray,List.set_cons_zero,List.set_cons_succ]
     refine wpAnyH_take (i:=19) (v:=?_) A2 kR kR kR A3 (Or.inl ⟨rF,?_⟩) A4 ?_
     rotate_left 1
     ·(intro wS hSw;(try dsimp only at hSw);go_simp;try(with_reducible rfl))
     try simp only[Act.put,List.setIfInBounds_toArray,List.set_cons_zero,List.set_cons_succ]
     refine wpAnyH_take (i:=20) (v:=?_) A2 kR kR kR A3 (Or.inl ⟨rF,?_⟩) A4 ?_
     rotate_left 1
     ·(intro wS hSw;(try dsimp only at hSw);go_simp;try(with_reducible rfl))
     try simp only[Act.put,List.setIfInBounds_toArray,List.set_cons_zero,List.set_cons_succ]
     refine wpAnyH_take (i:=21) (v:=?_) A2 kR kR kR A3 (Or.inl ⟨rF,?_⟩) A4 ?_
     rotate_left 1
     ·(intro wS hSw;(try dsimp only at hSw);go_simp;try(with_reducible rfl))
     try simp only[Act.put,List.setIfInBounds_toArray,List.set_cons_zero,List.set_cons_succ]
     clear hJ;refine AH 14 fun K hK=>?_;go_simp;(go_at_call 52;(with_reducible refine(HVEC.out _ (bel HT0.out.bel HB1.out)).mono ?_);rintro e wz ⟨rfl,hbz⟩;have HBZ:Hid (Below ((w.alloc (.cells #[v0,v1,v2,v3] 27)).alloc (.cells #[.int .i64 op,.int .i64 D,.int .i64 A,.int .i64 Q,.int .i64 E,.int .i64 nn,.int .u32 bt] 53)).heap.size ((w.alloc (.cells #[v0,v1,v2,v3] 27)).alloc (.cells #[.int .i64 op,.int .i64 D,.int .i64 A,.int .i64 Q,.int .i64 E,.int .i64 nn,.int .u32 bt] 53)) wz):=bel HB1.out hbz;clear hbz c0 c1 c2 c3 i0 i1 i2 i3 i4 i5 i6 y1;obtain⟨-,c0,c1,c2,c3,i0,i1,i2,i3,i4,i5,i6⟩:=HT0.out.next HBZ.out;have y1:=kc (bel HT0.out.bel HBZ.out) z1);try(go_wp2_with fail)
     refine AJ hK fun hJ=>?_;clear hK K;refine wpAnyH_take (i:=22) (v:=?_) A2 kR kR kR A3 (Or.inl ⟨rF,?_⟩) A4 ?_
     rotate_left 1
     ·(intro wS hSw;(try dsimp only at hSw);go_simp;try(with_reducible rfl))
     try simp only[Act.put,List.setIfInBounds_toArray,List.set_cons_zero,List.set_cons_succ]
     refine wpAnyH_take (i:=23) (v:=?_) A2 kR kR kR A3 (Or.inl ⟨rF,?_⟩) A4 ?_
     rotate_left 1
     ·(intro wS hSw;(try dsimp only at hSw);go_simp;try(with_reducible rfl))
     try simp only[Act.put,List.setIfInBounds_toArray,List.set_cons_zero,List.set_cons_succ]
     refine wpAnyH_take (i:=24) (v:=?_) A2 kR kR kR A3 (Or.inl ⟨rF,?_⟩) A4 ?_
     rotate_left 1
     ·(intro wS hSw;(try dsimp only at hSw);go_simp;try(with_reducible rfl))
     try simp only[Act.put,List.setIfInBounds_toArray,List.set_cons_zero,List.set_cons_succ]
     refine wpAnyH_done kR ?_ _;clear j0 j1 j2 hw y1 h7' h7b;exact L8
    .rw[hVV,Bool.not_true,Bool.false_and]at hRES;have HQF:Hid (false=RES):=hRES;clear hRES;have hVb:(V==par)=false:=by simpa using hVV
     go_enter func35,ntmps35;go_wp2;refine rG (fun v=>v.cell? ⟨g,m*3+1,none⟩=some (.int .i64 par)/\v.cell? ⟨w.heap.size,0,none⟩=some v0/\v.cell? ⟨w.heap.size,1,none⟩=some v1/\v.cell? ⟨w.heap.size,2,none⟩=some v2/\v.cell? ⟨w.heap.size,3,none⟩=some v3/\v.cell? ⟨w.heap.size+1,0,none⟩=some (.int .i64 op)/\v.cell? ⟨w.heap.size+1,1,none⟩=some (.int .i64 D)/\v.cell? ⟨w.heap.size+1,2,none⟩=some (.int .i64 A)/\v.cell? ⟨w.heap.size+1,3,none⟩=some (.int .i64 Q)/\v.cell? ⟨w.heap.size+1,4,none⟩=some (.int .i64 E)/\v.cell? ⟨w.heap.size+1,5,none⟩=some (.int .i64 nn)/\v.cell? ⟨w.heap.size+1,6,none⟩=some (.int .u32 bt)) fun hJ=>?_;refine wpAnyH_take (i:=0) (v:=?_) A2 kR kR kR A3 (Or.inl ⟨rF,?_⟩) A4 ?_
     rotate_left 1
     ·(intro wS hSw;(try dsimp only at hSw);go_simp;try(with_reducible rfl))
     try simp only[Act.put,List.setIfInBounds_toArray,List.set_cons_zero,List.set_cons_succ]
     refine wpAnyH_take (i:=1) (v:=?_) A2 kR kR kR A3 (Or.inl ⟨rF,?_⟩) A4 ?_
     rotate_left 1
     ·(intro wS hSw;(try dsimp only at hSw);go_simp;try(with_reducible rfl))
     try simp only[Act.put,List.setIfInBounds_toArray,List.set_cons_zero,List.set_cons_succ]
     clear hJ;refine AH 2 fun K hK=>?_;go_simp;(go_at_call 51;(with_reducible refine(HFIT.out _ (bel HT0.out.bel (A7 _))).mono ?_);rintro e w1 ⟨rfl,hb1⟩;have HB1:Hid (Below ((w.alloc (.cells #[v0,v1,v2,v3] 27)).alloc (.cells #[.int .i64 op,.int .i64 D,.int .i64 A,.int .i64 Q,.int .i64 E,.int .i64 nn,.int .u32 bt] 53)).heap.size ((w.alloc (.cells #[v0,v1,v2,v3] 27)).alloc (.cells #[.int .i64 op,.int .i64 D,.int .i64 A,.int .i64 Q,.int .i64 E,.int .i64 nn,.int .u32 bt] 53)) w1):=bel (A7 _) hb1;clear hb1;obtain⟨-,c0,c1,c2,c3,i0,i1,i2,i3,i4,i5,i6⟩:=HT0.out.next HB1.out;have y1:=kc (bel HT0.out.bel HB1.out) z1);try(go_wp2_with fail)
     refine AJ hK fun hJ=>?_;clear hK K;refine wpAnyH_take (i:=3) (v:=?_) A2 kR kR kR A3 (Or.inl ⟨rF,?_⟩) A4 ?_
     rotate_left 1
     ·(intro wS hSw;(try dsimp only at hSw);go_simp;try(with_reducible rfl))
     try simp only[Act.put,List.setIfInBounds_toArray,List.set_cons_zero,List.set_cons_succ]
     refine wpAnyH_take (i:=4) (v:=?_) A2 kR kR kR A3 (Or.inl ⟨rF,?_⟩) A4 ?_
     rotate_left 1
     ·(intro wS hSw;(try dsimp only at hSw);go_simp;try(with_reducible rfl))
     try simp only[Act.put,List.setIfInBounds_toArray,List.set_cons_zero,List.set_cons_succ]
     refine wpAnyH_take (i:=5) (v:=?_) A2 kR kR kR A3 (Or.inl ⟨rF,?_⟩) A4 ?_
     rotate_left 1
     ·(intro wS hSw;(try dsimp only at hSw);go_simp;try(with_reducible rfl))
     try simp only[Act.put,List.setIfInBounds_toArray,List.set_cons_zero,List.set_cons_succ]
     refine wpAnyH_take (i:=6) (v:=?_) A2 kR kR kR A3 (Or.inl ⟨rF,?_⟩) A4 ?_
     rotate_left 1
     ·(intro wS hSw;(try dsimp only at hSw);go_simp;try(with_reducible rfl))
     try simp only[Act.put,List.setIfInBounds_toArray,List.set_cons_zero,List.set_cons_succ]
     refine wpAnyH_take (i:=7) (v:=?_) A2 kR kR kR A3 (Or.inl ⟨rF,?_⟩) A4 ?_
     rotate_left 1
     ·(intro wS hSw;(try dsimp only at hSw);go_simp;try(with_reducible rfl))
     try simp only[Act.put,List.setIfInBounds_toArray,List.set_cons_zero,List.set_cons_succ]
     refine wpAnyH_take (i:=8) (v:=?_) A2 kR kR kR A3 (Or.inl ⟨rF,?_⟩) A4 ?_
     rotate_left 1
     ·(intro wS hSw;(try dsimp only at hSw);go_simp;try(with_reducible rfl))
     try simp only[Act.put,List.setIfInBounds_toArray,List.set_cons_zero,List.set_cons_succ]
     refine wpAnyH_take (i:=9) (v:=?_) A2 kR kR kR A3 (Or.inl ⟨rF,?_⟩) A4 ?_
     rotate_left 1
     ·(intro wS hSw;(try dsimp only at hSw);go_simp;try(with_reducible rfl))
     try simp only[Act.put,List.setIfInBounds_toArray,List.set_cons_zero,List.set_cons_succ]
     refine wpAnyH_take (i:=10) (v:=?_) A2 kR kR kR A3 (Or.inl ⟨rF,?_⟩) A4 ?_
     rotate_left 1
     ·(intro wS hSw;(try dsimp only at hSw);go_simp;try(with_reducible rfl))
     try simp only[Act.put,List.setIfInBounds_toArray,List.set_cons_zero,List.set_cons_succ]
     refine wpAnyH_take (i:=11) (v:=?_) A2 kR kR kR A3 (Or.inl ⟨rF,?_⟩) A4 ?_
     rotate_left 1
     ·(intro wS hSw;(try dsimp only at hSw);go_simp;try(with_reducible rfl))
     try simp only[Act.put,List.setIfInBounds_toArray,List.set_cons_zero,List.set_cons_succ]
     refine wpAnyH_take (i:=12) (v:=?_) A2 kR kR kR A3 (Or.inl ⟨rF,?_⟩) A4 ?_
     rotate_left 1
     ·(intro wS hSw;(try dsimp only at hSw);go_simp;try(with_reducible rfl))
     try simp only[Act.put,List.setIfInBounds_toArray,List.set_cons_zero,List.set_cons_succ]
     refine wpAnyH_take (i:=13) (v:=?_) A2 kR kR kR A3 (Or.inl ⟨rF,?_⟩) A4 ?_
     rotate_left 1
     ·(intro wS hSw;(try dsimp only at hSw);go_simp;try(with_reducible rfl))
     try simp only[Act.put,List.setIfInBounds_toArray,List.set_cons_zero,List.set_cons_succ]
     refine wpAnyH_take (i:=15) (v:=?_) A2 kR kR kR A3 (Or.inl ⟨rF,?_⟩) A4 ?_
     rotate_left 1
     ·(intro wS hSw;(try dsimp only at hSw);go_simp;try(with_reducible rfl))
     try simp only[Act.put,List.setIfInBounds_toArray,List.set_cons_zero,List.set_cons_succ]
     refine wpAnyH_take (i:=16) (v:=?_) A2 kR kR kR A3 (Or.inl ⟨rF,?_⟩) A4 ?_
     rotate_left 1
     ·(intro wS hSw;(try dsimp only at hSw);go_simp;try(with_reducible rfl))
     try simp only[Act.put,List.setIfInBounds_toArray,List.set_cons_zero,List.set_cons_succ]
     refine wpAnyH_take (i:=17) (v:=?_) A2 kR kR kR A3 (Or.inl ⟨rF,?_⟩) A4 ?_
     rotate_left 1
     ·(intro wS hSw;(try dsimp only at hSw);go_simp;try(with_reducible rfl))
     try simp only[Act.put,List.setIfInBounds_toArray,List.set_cons_zero,List.set_cons_succ]
     refine wpAnyH_take (i:=18) (v:=?_) A2 kR kR kR A3 (Or.inl ⟨rF,?_⟩) A4 ?_
     rotate_left 1
     ·(intro wS hSw;(try dsimp only at hSw);go_simp;try(with_reducible rfl))
     try simp only[Act.put,List.setIfInBounds_toArray,List.set_cons_zero,List.set_cons_succ]
     refine wpAnyH_take (i:=19) (v:=?_) A2 kR kR kR A3 (Or.inl ⟨rF,?_⟩) A4 ?_
     rotate_left 1
     ·(intro wS hSw;(try dsimp only at hSw);go_simp;try(with_reducible rfl))
     try simp only[Act.put,List.setIfInBounds_toArray,List.set_cons_zero,List.set_cons_succ]
     refine wpAnyH_take (i:=20) (v:=?_) A2 kR kR kR A3 (Or.inl ⟨rF,?_⟩) A4 ?_
     rotate_left 1
     ·(intro wS hSw;(try dsimp only at hSw);go_simp;try(with_reducible rfl))
     try simp only[Act.put,List.setIfInBounds_toArray,List.set_cons_zero,List.set_cons_succ]
     refine wpAnyH_take (i:=21) (v:=?_) A2 kR kR kR A3 (Or.inl ⟨rF,?_⟩) A4 ?_
     rotate_left 1
     ·(intro wS hSw;(try dsimp only at hSw);go_simp;try(with_reducible rfl))
     try simp only[Act.put,List.setIfInBounds_toArray,List.set_cons_zero,List.set_cons_succ]
     clear hJ;refine AH 14 fun K hK=>?_;go_simp;(go_at_call 52;(with_reducible refine(HVEC.out _ (bel HT0.out.bel HB1.out)).mono ?_);rintro e wz ⟨rfl,hbz⟩;have HBZ:Hid (Below ((w.alloc (.cells #[v0,v1,v2,v3] 27)).alloc (.cells #[.int .i64 op,.int .i64 D,.int .i64 A,.int .i64 Q,.int .i64 E,.int .i64 nn,.int .u32 bt] 53)).heap.size ((w.alloc (.cells #[v0,v1,v2,v3] 27)).alloc (.cells #[.int .i64 op,.int .i64 D,.int .i64 A,.int .i64 Q,.int .i64 E,.int .i64 nn,.int .u32 bt] 53)) wz):=bel HB1.out hbz;clear hbz c0 c1 c2 c3 i0 i1 i2 i3 i4 i5 i6 y1;obtain⟨-,c0,c1,c2,c3,i0,i1,i2,i3,i4,i5,i6⟩:=HT0.out.next HBZ.out;have y1:=kc (bel HT0.out.bel HBZ.out) z1);try(go_wp2_with fail)
     refine AJ hK fun hJ=>?_;clear hK K;refine wpAnyH_take (i:=22) (v:=?_) A2 kR kR kR A3 (Or.inl ⟨rF,?_⟩) A4 ?_
     rotate_left 1
     ·(intro wS hSw;(try dsimp only at hSw);go_simp;try(with_reducible rfl))
     try simp only[Act.put,List.setIfInBounds_toArray,List.set_cons_zero,List.set_cons_succ]
     refine wpAnyH_take (i:=23) (v:=?_) A2 kR kR kR A3 (Or.inl ⟨rF,?_⟩) A4 ?_
     rotate_left 1
     ·(intro wS hSw;(try dsimp only at hSw);go_simp;try(with_reducible rfl))
     try simp only[Act.put,List.setIfInBounds_toArray,List.set_cons_zero,List.set_cons_succ]
     refine wpAnyH_take (i:=24) (v:=?_) A2 kR kR kR A3 (Or.inl ⟨rF,?_⟩) A4 ?_
     rotate_left 1
     ·(intro wS hSw;(try dsimp only at hSw);go_simp;try(with_reducible rfl))
     try simp only[Act.put,List.setIfInBounds_toArray,List.set_cons_zero,List.set_cons_succ]
     refine wpAnyH_done kR ?_ _;go_wp2;go_ret;exact⟨A6 HQF.out,bel hb00 HBZ.out⟩
structure CX(w:World)(v0 v1 v2 v3:Value)(v:World):Prop where
 bel:Below w.heap.size w v
 lt:w.heap.size<v.heap.size
 c0:v.cell? ⟨w.heap.size,0,none⟩=some v0
 c1:v.cell? ⟨w.heap.size,1,none⟩=some v1
 c2:v.cell? ⟨w.heap.size,2,none⟩=some v2
 c3:v.cell? ⟨w.heap.size,3,none⟩=some v3
theorem CX.next{w:World}{v0 v1 v2 v3:Value}{v v':World}(h:CX w v0 v1 v2 v3 v)(k:Below v.heap.size v v'):CX w v0 v1 v2 v3 v':=
 ⟨Go.Proofs.Ytjglaibglofddaa.bel h.bel k,Nat.lt_of_lt_of_le h.lt k.size,kc k h.c0,kc k h.c1,kc k h.c2,kc k h.c3⟩
theorem CX.on{w:World}{v0 v1 v2 v3:Value}{v v':World}(h:CX w v0 v1 v2 v3 v)(k:Below (w.heap.size+1) v v'):CX w v0 v1 v2 v3 v':=
 have f:∀j,v'.cell? ⟨w.heap.size,j,none⟩=v.cell? ⟨w.heap.size,j,none⟩:=fun j=>k.cell (Nat.lt_succ_self _)
 ⟨h.bel.trans (k.mono (Nat.le_succ _)),Nat.lt_of_lt_of_le h.lt k.size,(f 0).trans h.c0,(f 1).trans h.c1,(f 2).trans h.c2,(f 3).trans h.c3⟩
theorem CX.start(w:World)(v0 v1 v2 v3:Value):CX w v0 v1 v2 v3 (w.alloc (.cells #[v0,v1,v2,v3] 27)):=
 ⟨A0 _ _,sM,sG,sG,sG,sG⟩
theorem Eo{α:Type}(p:α->Bool){l:List α}{k:Nat}(h:k<l.length)(ht:(l.take k).all p=true)(hp:p l[k]=true):(l.take (k+1)).all p=true:=by
 rw[List.take_succ_eq_append_getElem h,List.all_append,ht];simp[hp]
theorem FG{α:Type}(p:α->Bool){l:List α}{k:Nat}(h:k<l.length)(hp:p l[k]=false):l.all p=false:=by
 rw[List.all_eq_false];exact⟨l[k],gD h,by simp[hp]⟩
theorem BK(v0 v1 v2 v3:Value)(c:Cd)(hk:AI c)(w:World)(hv:BE w v0 v1 v2 v3 c)(E:Int)(hE:(Ao c.sign≠0/\E=Ao c.sign)\/(Ao c.sign=0/\(16384<c.regs.length\/32768<c.list.length)/\E=181)\/(Ao c.sign=0/\¬16384<c.regs.length/\¬32768<c.list.length/\4096<c.slots.length/\E=180)):
 Calls prog 23 #[.agg #[v0,v1,v2,v3]] w fun e w'=>e=.returned (.tuple #[.int .i64 E,.int .i64 (-1)])/\Below w.heap.size w w':=by
 have hSG:∀v,Below w.heap.size w v->Calls prog 32 #[v0] v fun e w'=>e=.returned (.int .i64 (Ao c.sign))/\Below v.heap.size v w':=fun v hb=>DB v0 c.sign hk.signL hk.names v (hv.below hb).sign.rd;have l1:=hk.regsL;have l2:=hk.slotsL;have l3:=hk.listL;obtain⟨p0,q0,rfl,-⟩:=id hv.sign;obtain⟨p1,q1,rfl,-⟩:=id hv.regs;obtain⟨p2,q2,rfl,-⟩:=id hv.slots;obtain⟨p3,q3,rfl,-⟩:=id hv.list;obtain⟨n0,hn0⟩:∃n,c.sign.length=n:=⟨_,rfl⟩
 obtain⟨n1,hn1⟩:∃n,c.regs.length=n:=⟨_,rfl⟩
 obtain⟨n2,hn2⟩:∃n,c.slots.length=n:=⟨_,rfl⟩
 obtain⟨n3,hn3⟩:∃n,c.list.length=n:=⟨_,rfl⟩
 obtain⟨K,hK⟩:∃n,Ao c.sign=n:=⟨_,rfl⟩
 rw[hn0,hK]at hSG;rw[hK,hn1,hn2,hn3]at hE;rw[hn1]at l1;rw[hn2]at l2;rw[hn3]at l3;rw[hn0,hn1,hn2,hn3];have HSG:Hid _:=hSG;clear hSG hn0 hn1 hn2 hn3 hK hv hk;rcases hE with⟨h1,rfl⟩|⟨rfl,h2,rfl⟩|⟨rfl,h2,h3,h4,rfl⟩
 .have h1':(E==0)=false:=by simpa using h1
  have h1'':(E != 0)=true:=by simpa using h1
  exact Ku
 .by_cases h5:16384<n1
  .have h6:(16384:Int)<(n1:Int):=oM;exact Ku
  .have h6:(n1:Int)<=16384:=oM;have h7:(32768:Int)<(n3:Int):=oM;clear h5;exact Ku
 .have h6:(n1:Int)<=16384:=oM;have h7:(n3:Int)<=32768:=oM;have h8:(4096:Int)<(n2:Int):=oM;exact Ku
theorem A5{p:Prop}(h:p):Hid p:=h
theorem JQ(w:World)(t:TypeId)(v0 v1 v2 v3:Value):(w.alloc (.cells #[v0,v1,v2,v3] t)).rowIs w.heap.size t 4 (f4 v0 v1 v2 v3):=
 World.rowIs_alloc w #[v0,v1,v2,v3] t _ (fun i hi=>by rcases(show i=0\/i=1\/i=2\/i=3 by have:i<4:=hi;omega)with rfl|rfl|rfl|rfl<;>rfl)
theorem c4{w:World}{b:Nat}{t:TypeId}{v0 v1 v2 v3:Value}(h:w.rowIs b t 4 (f4 v0 v1 v2 v3)):w.cell? ⟨b,0,none⟩=some v0/\w.cell? ⟨b,1,none⟩=some v1/\w.cell? ⟨b,2,none⟩=some v2/\w.cell? ⟨b,3,none⟩=some v3:=⟨h.cell (i:=0) dE,h.cell (i:=1) dE,h.cell (i:=2) dE,h.cell (i:=3) dE⟩
theorem JG{w w':World}{b n:Nat}{t:TypeId}{f:Nat->Value}{o:Obj}(h:w.rowIs b t n f)(hw:w.alloc o=w'):w'.rowIs b t n f:=by subst hw;exact h.alloc _
theorem H8{w w':World}{C:Nat}{o:Obj}(hw:w.alloc o=w')(hC:C<=w.heap.size):Below C w w':=by subst hw;exact(A0 _ _).mono hC
def g2(a0 a1:Value)(k:Nat):Value:=if k=0 then a0 else a1
theorem c2{w:World}{b:Nat}{t:TypeId}{a0 a1:Value}(h:w.rowIs b t 2 (g2 a0 a1)):w.cell? ⟨b,0,none⟩=some a0/\w.cell? ⟨b,1,none⟩=some a1:=⟨h.cell (i:=0) dE,h.cell (i:=1) dE⟩
theorem z2{w:World}{b n:Nat}{t:TypeId}{f:Nat->Value}(h:w.rowIs b t n f):w.frozen? ⟨b,0,none⟩=false/\w.frozen? ⟨b,1,none⟩=false:=⟨h.frozen 0,h.frozen 1⟩
def g3(a0 a1 a2:Value)(k:Nat):Value:=if k=0 then a0 else if k=1 then a1 else a2
theorem c3{w:World}{b:Nat}{t:TypeId}{a0 a1 a2:Value}(h:w.rowIs b t 3 (g3 a0 a1 a2)):w.cell? ⟨b,0,none⟩=some a0/\w.cell? ⟨b,1,none⟩=some a1/\w.cell? ⟨b,2,none⟩=some a2:=⟨h.cell (i:=0) dE,h.cell (i:=1) dE,h.cell (i:=2) dE⟩
theorem z3{w:World}{b n:Nat}{t:TypeId}{f:Nat->Value}(h:w.rowIs b t n f):w.frozen? ⟨b,0,none⟩=false/\w.frozen? ⟨b,1,none⟩=false/\w.frozen? ⟨b,2,none⟩=false:=⟨h.frozen 0,h.frozen 1,h.frozen 2⟩
def g5(a0 a1 a2 a3 a4:Value)(k:Nat):Value:=if k=0 then a0 else if k=1 then a1 else if k=2 then a2 else if k=3 then a3 else a4
theorem c5{w:World}{b:Nat}{t:TypeId}{a0 a1 a2 a3 a4:Value}(h:w.rowIs b t 5 (g5 a0 a1 a2 a3 a4)):w.cell? ⟨b,0,none⟩=some a0/\w.cell? ⟨b,1,none⟩=some a1/\w.cell? ⟨b,2,none⟩=some a2/\w.cell? ⟨b,3,none⟩=some a3/\w.cell? ⟨b,4,none⟩=some a4:=⟨h.cell (i:=0) dE,h.cell (i:=1) dE,h.cell (i:=2) dE,h.cell (i:=3) dE,h.cell (i:=4) dE⟩
theorem z5{w:World}{b n:Nat}{t:TypeId}{f:Nat->Value}(h:w.rowIs b t n f):w.frozen? ⟨b,0,none⟩=false/\w.frozen? ⟨b,1,none⟩=false/\w.frozen? ⟨b,2,none⟩=false/\w.frozen? ⟨b,3,none⟩=false/\w.frozen? ⟨b,4,none⟩=false:=⟨h.frozen 0,h.frozen 1,h.frozen 2,h.frozen 3,h.frozen 4⟩
def g7(a0 a1 a2 a3 a4 a5 a6:Value)(k:Nat):Value:=if k=0 then a0 else if k=1 then a1 else if k=2 then a2 else if k=3 then a3 else if k=4 then a4 else if k=5 then a5 else a6
theorem JR(w:World)(t:TypeId)(a0 a1 a2 a3 a4 a5 a6:Value):(w.alloc (.cells #[a0,a1,a2,a3,a4,a5,a6] t)).rowIs w.heap.size t 7 (g7 a0 a1 a2 a3 a4 a5 a6):=
 World.rowIs_alloc w #[a0,a1,a2,a3,a4,a5,a6] t _ (fun i hi=>by rcases(show i=0\/i=1\/i=2\/i=3\/i=4\/i=5\/i=6 by have:i<7:=hi;omega)with rfl|rfl|rfl|rfl|rfl|rfl|rfl<;>rfl)
theorem c7{w:World}{b:Nat}{t:TypeId}{a0 a1 a2 a3 a4 a5 a6:Value}(h:w.rowIs b t 7 (g7 a0 a1 a2 a3 a4 a5 a6)):w.cell? ⟨b,0,none⟩=some a0/\w.cell? ⟨b,1,none⟩=some a1/\w.cell? ⟨b,2,none⟩=some a2/\w.cell? ⟨b,3,none⟩=some a3/\w.cell? ⟨b,4,none⟩=some a4/\w.cell? ⟨b,5,none⟩=some a5/\w.cell? ⟨b,6,none⟩=some a6:=⟨h.cell (i:=0) dE,h.cell (i:=1) dE,h.cell (i:=2) dE,h.cell (i:=3) dE,h.cell (i:=4) dE,h.cell (i:=5) dE,h.cell (i:=6) dE⟩
end Go.Proofs.Ytjglaibglofddaa
