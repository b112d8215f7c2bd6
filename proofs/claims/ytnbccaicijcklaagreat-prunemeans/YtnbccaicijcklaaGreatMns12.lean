import Derived.Test.YtnbccaicijcklaaGreatMns10
import Derived.Test.YtnbccaicijcklaaGreatMns6
import Derived.Test.YtnbccaicijcklaaGreatMns8
import Derived.Test.YtnbccaicijcklaaGreatMns1
import Derived.Test.YtnbccaicijcklaaGreatMns2
import Derived.Test.YtnbccaicijcklaaGreatMns11
import Derived.Lib.LazyBuf
import Derived.Test.YtnbccaicijcklaaGreatMns9
namespace Go.Proofs.YtnbccaicijcklaaGreat
open Go.RowKit Go.Proofs.Tryz
set_option linter.all false
set_option maxRecDepth 100000
set_option maxHeartbeats 16000000


def Di(M:Nat)(X:List Nat):List Value:=(List.range M).map fun j=>.bool (decide (j∈X))
theorem Ko(M:Nat)(X:List Nat):(Di M X).length=M:=by simp[Di]
theorem Hz{M:Nat}{X:List Nat}{j:Nat}(h:j<M):(Di M X)[j]? =some (.bool (decide (j∈X))):=by
 unfold Di;rw[List.getElem?_map,List.getElem?_range h];rfl
theorem OE(M:Nat):Di M []=List.replicate M (.bool false):=by
 apply List.ext_getElem?;intro j;by_cases h:j<M
 .rw[Hz h,List.getElem?_replicate,if_pos h];simp
 .rw[List.getElem?_eq_none Zhv,List.getElem?_eq_none sO]
theorem XG{M:Nat}{X:List Nat}{i:Ad}(hd:(A4 i.op).d≠0)(hl:i.d.toNat<M):(Di M X).set i.d.toNat (.bool true)=Di M (Jd X i):=by
 apply List.ext_getElem?;intro j;by_cases h:j<M
 .rw[Hz h,List.getElem?_set];by_cases e:i.d.toNat=j
  .rw[if_pos e,if_pos Zhv];have:j∈Jd X i:=Ra.2 (.inr ⟨hd,e.symm⟩);simp[this]
  .rw[if_neg e,Hz h];have:j∈Jd X i↔j∈X:=by
    rw[Ra];exact⟨fun q=>q.resolve_right fun q=>e q.2.symm,.inl⟩
   simp[this]
 .rw[List.getElem?_eq_none (by rw[List.length_set,Ko];omega),List.getElem?_eq_none Zhv]
theorem Ub{M:Nat}{X:List Nat}{i:Ad}(hd:(A4 i.op).d=0):Jd X i=X:=by unfold Jd;rw[if_neg (fun q=>q.1 hd)]
theorem UU{B:Nat}{V:World}{p:Option Addr}{n q:Nat}{xs:List Value}(h:V.ownsRow B 4 1 (.slice p n q) n xs)(hB:B<=V.heap.size)(hn:n<=140737488351232):
 ∃g c' w',(Builtin.append_ #[36,36] 36 #[.slice p n q,.slice (some ⟨V.heap.size,0,none⟩) 1 1]).run prog (V.alloc (.cells #[.bool false] 4))=.ok (.slice (some ⟨g,0,none⟩) (n+1) c') w'/\Below B V w'/\w'.ownsRow B 4 1 (.slice (some ⟨g,0,none⟩) (n+1) c') (n+1) (xs++[.bool false]):=by
 obtain⟨i0,hi0,hz0,hz1,hz2⟩:=info_parts EX;have hb0:Below V.heap.size V (V.alloc (.cells #[.bool false] 4)):=A0 _ _;have hsz:(V.alloc (.cells #[.bool false] 4)).heap.size=V.heap.size+1:=sM;have h0:=Ak h hb0;obtain⟨g,cap,w3,hr,hown,hgrow,hat,hlt⟩:=run_append_lies (P:=prog) (V.alloc (.cells #[.bool false] 4)) 36 36 B 4 i0 _ 1 1 underlying36 hi0 hz0 hz1 hz2 rfl dE (.slice p n q) n xs h0 ⟨V.heap.size,0,none⟩ 1 1 [.bool false] rfl
  (World.news_of_block (cs:=#[.bool false]) (t:=4) (fr:=(0,0)) (heap_alloc_new V _)) Sx dE mL oM sO _ rfl
 exact⟨g,cap,w3,hr,(hb0.mono hB).grown hgrow oM (fun q e=>(h0.lt q e).1),hown⟩
def Zw(o:Ob)(u:Value):List Value:=[.int .i64 o.op,.int .i64 o.par,u]
def GP:List Ob->List Value->List Value
 |o::l,u::us=>Zw o u++GP l us
 |_,_=>[]
theorem LM(o:Ob)(u:Value):∀ {l:List Ob} {us:List Value},l.length=us.length->GP (l++[o]) (us++[u])=GP l us++Zw o u
 |[],[],_=>by simp[GP]
 |[],_::_,h=>by simp at h
 |_::_,[],h=>by simp at h
 |a::l,b::us,h=>by simp only[List.cons_append,GP];rw[LM o u UQ,List.append_assoc]
theorem Im:∀ (m:Nat) (l:List Ob) (us:List Value),(GP l us).take (m*3)=GP (l.take m) (us.take m)
 |0,l,us=>by simp[GP]
 |m+1,[],us=>by simp[GP]
 |m+1,a::l,[]=>by simp[GP]
 |m+1,a::l,b::us=>by
  simp only[List.take_succ_cons,GP];rw[show(m+1)*3=(Zw a b).length+m*3 by simp[Zw];omega,List.take_length_add_append,Im m l us]
theorem Rx(j:Nat)(hj:j<3):∀ {l:List Ob} {us:List Value} {k:Nat} {o:Ob} {u:Value},l[k]? =some o->us[k]? =some u->(GP l us)[k*3+j]? =(Zw o u)[j]?
 |[],us,k,o,u,h,_=>by simp at h
 |a::l,[],k,o,u,_,h=>by simp at h
 |a::l,b::us,0,o,u,h,h'=>by
  simp at h h';subst h h';simp only[GP];rw[Nat.zero_mul,Nat.zero_add,List.getElem?_append_left (by simpa[Zw]using hj)]
 |a::l,b::us,k+1,o,u,h,h'=>by
  simp only[GP];rw[List.getElem?_append_right (by simp[Zw];omega)];have e:(k+1)*3+j-(Zw a b).length=k*3+j:=by simp[Zw];omega
  rw[e];exact Rx j hj UQ (by simpa using h')
theorem Th:(prog.info? 102).map (fun i=>(i.zero,i.size,i.bytes))=some (some (.agg #[.int .i64 0,.int .i64 0,.slice none 0 0]),3,40):=kR
structure SK(B M:Nat)(v:World)(sv ov:Value)(s:Wk)(us:List Value):Prop where
 hB:B<=v.heap.size
 set:v.ownsRow B 4 1 sv M (Di M s.set)
 opn:v.ownsRow B 102 3 ov s.opens.length (GP (Lh s) us)
 len:us.length=s.opens.length
 each:∀k (h:k<us.length) o,(Lh s)[k]? =some o->v.ownsRow B 4 1 us[k] M (Di M o.set)/\∀b,sv.ownBlock=some b->us[k].ownBlock≠some b
section
variable {B M : Nat} {v v' : World} {sv ov : Value} {s : Wk} {us : List Value}
theorem SK.below(h:SK B M v sv ov s us)(k:Below v.heap.size v v'):SK B M v' sv ov s us:=
 ⟨gH h.hB k.size,Ak h.set k,Ak h.opn k,h.len,fun j hj o ho=>⟨Ak (h.each j hj o ho).1 k,(h.each j hj o ho).2⟩⟩
theorem I8:102≠4:=dE
theorem SK.ins{i:Ad}{g q n:Nat}(h:SK B M v (.slice (some ⟨g,0,none⟩) M q) ov s us)(ok:E5 n s)(h1:i.op≠34)(h2:i.op≠35)(h3:i.op≠36)(h4:i.op≠37)(hd:(A4 i.op).d≠0)(hl:i.d.toNat<M):
 SK B M (v.setCell ⟨g,i.d.toNat,none⟩ (.bool true)) (.slice (some ⟨g,0,none⟩) M q) ov (Aj s i) us:=by
 have e1:=VV (i:=i) ok h1 h2 h3 h4;have e2:(Aj s i).set=Jd s.set i/\(Aj s i).opens=s.opens:=by rw[Gw h1 h2 h3 h4];exact⟨rfl,rfl⟩
 have hne:∀b,b≠g->(v.setCell ⟨g,i.d.toNat,none⟩ (.bool true)).heap[b]? =v.heap[b]? :=fun b hb=>gE hb;refine⟨by have:=h.hB;simp;omega,?_,?_,by rw[e2.2];exact h.len,fun k hk o ho=>?_⟩
 .rw[e2.1,<-XG hd hl];exact(h.set.stored _ _).1
 .rw[e1,e2.2];exact Ac h.opn fun b hb=>hne b fun e=>Gr h.opn h.set I8 b hb (by rw[e];rfl)
 .rw[e1]at ho;obtain⟨a1,a2⟩:=h.each k hk o ho;exact⟨Ac a1 fun b hb=>hne b fun e=>a2 g rfl (by rw[<-e];exact hb),a2⟩
theorem SK.keep{i:Ad}{n:Nat}(h:SK B M v sv ov s us)(ok:E5 n s)(h1:i.op≠34)(h2:i.op≠35)(h3:i.op≠36)(h4:i.op≠37)(hd:(A4 i.op).d=0):SK B M v sv ov (Aj s i) us:=by
 have e:Aj s i=s:=by rw[Gw h1 h2 h3 h4,Ub (M:=0) hd]
 rw[e];exact h
theorem Gq{B:Nat}{V:World}{e t:TypeId}{z:Value}{sz by':Nat}(ht:prog.underlying t=some (.slice e))(hi:(prog.info? e).map (fun i=>(i.zero,i.size,i.bytes))=some (some z,sz,by'))(hzs:z.cells.size=sz)(hsz:0<sz){p:Option Addr}{n q:Nat}{xs:List Value}(h:V.ownsRow B e sz (.slice p n q) n xs)(hB:B<=V.heap.size)
 (cs:Array Value) (hcs:cs.size=sz) (h1:∀u∈cs.toList,u.oneCell'=true) (hn:n+1<=maxLen) (hb:(n+1)*by'<=140737488355328) (ty:TypeId):
 ∃g c' w',(Builtin.append_ #[t,t] ty #[.slice p n q,.slice (some ⟨V.heap.size,0,none⟩) 1 1]).run prog (V.alloc (.cells cs e))=.ok (.slice (some ⟨g,0,none⟩) (n+1) c') w'/\Below B V w'/\w'.ownsRow B e sz (.slice (some ⟨g,0,none⟩) (n+1) c') (n+1) (xs++cs.toList)/\∀b,b<V.heap.size->(Value.slice p n q).ownBlock≠some b->w'.heap[b]? =V.heap[b]? :=by
 obtain⟨i0,hi0,hz0,hz1,hz2⟩:=info_parts hi;have hb0:Below V.heap.size V (V.alloc (.cells cs e)):=A0 _ _;have hs:(V.alloc (.cells cs e)).heap.size=V.heap.size+1:=sM;have h0:=Ak h hb0;obtain⟨g,cap,w3,hr,hown,hgrow,hat,hlt⟩:=run_append_lies (P:=prog) (V.alloc (.cells cs e)) t ty B e i0 _ sz by' ht hi0 hz0 hz1 hz2 hzs hsz (.slice p n q) n xs h0 ⟨V.heap.size,0,none⟩ 1 1 cs.toList (by simp[hcs])
  (World.news_of_block (cs:=cs) (t:=e) (fr:=(0,0)) (heap_alloc_new V _)) h1 dE hn hb oM _ rfl
 refine⟨g,cap,w3,hr,(hb0.mono hB).grown hgrow oM (fun q e=>(h0.lt q e).1),hown,fun b hb hne=>?_⟩;rw[hgrow.block b oM (Ne.symm hne)];exact hb0.block b hb
theorem SK.push{i:Ad}{p:Option Addr}{q:Nat}{u:Value}(h:SK B M v sv (.slice p s.opens.length q) s us)(k:Below v.heap.size v v')(hu:v'.ownsRow v.heap.size 4 1 u M (Di M s.set))(hi:i.op=34\/i.op=36)(hn:s.opens.length<64)(ty:TypeId):
 ∃g c' w',(Builtin.append_ #[98,98] ty #[.slice p s.opens.length q,.slice (some ⟨v'.heap.size,0,none⟩) 1 1]).run prog (v'.alloc (.cells #[.int .i64 i.op,.int .i64 i.n,u] 102))=.ok (.slice (some ⟨g,0,none⟩) (s.opens.length+1) c') w'/\Below B v w'/\SK B M w' sv (.slice (some ⟨g,0,none⟩) (s.opens.length+1) c') (Aj s i) (us++[u])/\∀b,b<v'.heap.size->(Value.slice p s.opens.length q).ownBlock≠some b->w'.heap[b]? =v'.heap[b]? :=by
 have h':=h.below k;have hone:u.oneCell'=true:=by
  obtain⟨p,c,rfl⟩:=AZ hu;rfl
 obtain⟨g,c',w',hr,hb,ho,hk⟩:=Gq (V:=v') underlying98 Th rfl dE h'.opn h'.hB #[.int .i64 i.op,.int .i64 i.n,u] rfl (by intro x hx;simp at hx;rcases hx with rfl|rfl|rfl<;>first|rfl|exact hone) mL oM ty;have hs:(Aj s i).set=s.set/\(Aj s i).opens.length=s.opens.length+1:=by rw[Nf hi];exact⟨rfl,rfl⟩
 have eo:=VU (s:=s) hi;have hsz:=k.size;refine⟨g,c',w',hr,(k.mono h.hB).trans hb,⟨gH h'.hB hb.size,?_,?_,by rw[hs.2,List.length_append,h.len];rfl,fun j hj o ho'=>?_⟩,hk⟩
 .rw[hs.1];exact Ac h'.set fun b hbb=>hk b (h'.set.lt b hbb).2 (fun e=>Gr h'.opn h'.set I8 b e hbb)
 .rw[hs.2,eo,LM _ _ (by rw[Jo];exact h.len.symm)];exact ho
 .rw[eo]at ho';by_cases hlt:j<us.length
  .rw[List.getElem?_append_left (by rw[Jo,<-h.len];exact hlt)]at ho';obtain⟨a1,a2⟩:=h'.each j hlt o ho';rw[List.getElem_append_left hlt];exact⟨Ac a1 fun b hbb=>hk b (a1.lt b hbb).2 (fun e=>Gr h'.opn a1 I8 b e hbb),a2⟩
  .have hj':j=us.length:=by simp at hj;omega
   subst hj';rw[List.getElem?_append_right (by rw[Jo,h.len];exact gF _)]at ho';have e0:us.length-(Lh s).length=0:=by rw[Jo,h.len];omega
   rw[e0]at ho';simp at ho';subst ho';have e1:(us++[u])[us.length]'hj=u:=sM;rw[e1];refine⟨CM (Ac hu fun b hbb=>hk b (hu.lt b hbb).2 (fun e=>?_)) h.hB,fun b hbb e=>?_⟩
   .exact Gr h'.opn hu I8 b e hbb
   .have a1:=(hu.lt b e).1;have a2:=(h.set.lt b hbb).2;omega
theorem SK.pop{p:Option Addr}{q n:Nat}(h:SK B M v sv (.slice p s.opens.length q) s us)(ok:E5 n s)(h0:0<s.opens.length)(hl:AD s=true):SK B M v sv (.slice p (s.opens.length-1) q) (AQ s) (us.take (s.opens.length-1)):=by
 refine⟨h.hB,by rw[PQ hl];exact h.set,?_,by rw[EC,List.length_take,h.len];omega,fun k hk o ho=>?_⟩
 .rw[EC,Gp ok h0,<-Im];exact G5 h.opn oM
 .rw[Gp ok h0]at ho;have hk':k<us.length:=by simp at hk;omega
  rw[List.getElem?_take]at ho;split at ho
  .obtain⟨a1,a2⟩:=h.each k hk' o ho;simp only[List.getElem_take];exact⟨a1,a2⟩
  .simp at ho
theorem SK.back{p:Option Addr}{q n:Nat}{u:Value}{o:Ob}(h:SK B M v sv (.slice p s.opens.length q) s us)(ok:E5 n s)(h0:0<s.opens.length)(hl:AD s=false)(k:Below v.heap.size v v')(ho:(Lh s)[s.opens.length-1]? =some o)(hu:v'.ownsRow v.heap.size 4 1 u M (Di M o.set)):
 SK B M v' u (.slice p (s.opens.length-1) q) (AQ s) (us.take (s.opens.length-1)):=by
 refine⟨gH h.hB k.size,by rw[Tm hl ho h0];exact CM hu h.hB,?_,by rw[EC,List.length_take,h.len];omega,fun j hj x hx=>?_⟩
 .rw[EC,Gp ok h0,<-Im];exact Ak (G5 h.opn oM) k
 .rw[Gp ok h0]at hx;have hk':j<us.length:=by simp at hj;omega
  rw[List.getElem?_take]at hx;split at hx
  .obtain⟨a1,a2⟩:=h.each j hk' x hx;simp only[List.getElem_take];refine⟨Ak a1 k,fun b hb e=>?_⟩;have b1:=(hu.lt b hb).1;have b2:=(a1.lt b e).2;omega
  .simp at hx
theorem SK.last{g q:Nat}(h:SK B M v sv (.slice (some ⟨g,0,none⟩) s.opens.length q) s us)(h0:0<s.opens.length):∃ (X:List Nat) (u:Value),(Lh s)[s.opens.length-1]? =some ⟨if AD s then 36 else 34,Co s,X⟩/\v.ownsRow B 4 1 u M (Di M X)/\v.cell? ⟨g,(s.opens.length-1)*3,none⟩=some (.int .i64 (if AD s then 36 else 34))/\v.cell? ⟨g,(s.opens.length-1)*3+1,none⟩=some (.int .i64 (Co s))/\v.cell? ⟨g,(s.opens.length-1)*3+2,none⟩=some u:=by
 obtain⟨X,hX⟩:=VT h0;have hu:s.opens.length-1<us.length:=by rw[h.len];omega
 obtain⟨a1,a2⟩:=h.each _ hu _ hX;have cl:=fun(j:Nat) (hj:j<3)=>Rx j hj hX (gB hu);have ca:=fun(j:Nat) (hj:j<3)=>h.opn.cellAt ((s.opens.length-1)*3+j) oM;refine⟨X,_,hX,a1,?_,?_,?_⟩
 .have:=ca 0 dE;rw[cl 0 dE]at this;exact this
 .have:=ca 1 dE;rw[cl 1 dE]at this;exact this
 .have:=ca 2 dE;rw[cl 2 dE]at this;exact this
theorem SK.start(w:World)(B:Nat)(h:B<=w.heap.size){sv:Value}(hs:w.ownsRow B 4 1 sv M (Di M [])):SK B M w sv (.slice none 0 0) ⟨[],[]⟩ []:=
 ⟨h,hs,World.ownsRow_nil _ _ _ 3,rfl,fun k hk=>by simp at hk⟩
end
theorem XH(M:Nat)(X:List Nat):∀u∈Di M X,u.oneCell'=true:=by
 intro u hu;unfold Di at hu;simp only[List.mem_map]at hu;obtain⟨j,-,rfl⟩:=hu;rfl
theorem Sy{t e:TypeId}{z:Value}{sz by':Nat}(ht:prog.underlying t=some (.slice e))(hi:(prog.info? e).map (fun i=>(i.zero,i.size,i.bytes))=some (some z,sz,by'))(p:Option Addr)(n c:Nat)(x:Option Addr)(d:Nat)(hn:n<=c)(ty:TypeId)(w:World):(Builtin.append_ #[t,t] ty #[.slice p n c,.slice x 0 d]).run prog w=.ok (.slice p n c) w:=by
 obtain⟨i0,hi0,hz0,hz1,hz2⟩:=info_parts hi;have h1:¬c<n:=oM;cases x with
 |none=>cases p<;>simp[Builtin.append_,run_underlying ht,sizeOf,typeInfo,hi0,Builtin.lenOf,Builtin.firstCells,storeCells,loadCells,loadCellsFrom,hn,h1]
 |some a=>cases p<;>simp[Builtin.append_,run_underlying ht,sizeOf,typeInfo,hi0,Builtin.lenOf,Builtin.firstCells,storeCells,loadCells,loadCellsFrom,hn,h1]
theorem J0{B M:Nat}{X:List Nat}(v:Value)(hM:M<=16384)(w:World)(h:w.ownsRow B 4 1 v M (Di M X)):
 Calls prog 37 #[v] w fun e w'=>∃u,e=.returned u/\w'.ownsRow w.heap.size 4 1 u M (Di M X)/\Below w.heap.size w w':=by
 obtain⟨p,q,rfl⟩:=AZ h;have Bl:∃u w',(Builtin.append_ #[36,36] 36 #[.slice none 0 0,.slice p M q]).run prog w=.ok u w'/\w'.ownsRow w.heap.size 4 1 u M (Di M X)/\Below w.heap.size w w':=by
  by_cases h0:M=0
  .subst h0;refine⟨.slice none 0 0,w,Sy underlying36 EX none 0 0 p q (gF _) _ _,?_,BZ _⟩;have:Di 0 X=[]:=by simp[Di]
   rw[this];exact World.ownsRow_nil _ _ _ 1
  .obtain⟨g,c,e,hl,hg⟩:=h.form oM;simp only[Value.slice.injEq]at e;obtain⟨rfl,-,rfl⟩:=e;obtain⟨i0,hi0,hz0,hz1,hz2⟩:=info_parts EX;obtain⟨g',cap,w',hr,hown,hgrow,hat,hlt⟩:=run_append_lies (P:=prog) w 36 36 w.heap.size 4 i0 _ 1 1 underlying36 hi0 hz0 hz1 hz2 rfl dE (.slice none 0 0) 0 [] (World.ownsRow_nil _ _ _ 1) ⟨g,0,none⟩ M q (Di M X) Zhv
    (fun j u hu=>by
     have hj:j<M:=by have:=(List.getElem?_eq_some_iff.1 hu).1;rw[Ko]at this;exact this
     have e:=h.cellAt j oM;have e2:(⟨g,0,none⟩:Addr).add j=⟨g,j,none⟩:=by simp[Addr.add];omega
     rw[e2,e,hu]) (XH M X) oM mL oM (gF _) _ rfl
   simp only[Nat.zero_add,List.nil_append]at hr hown;exact⟨_,w',hr,hown,(Below.refl _ _).grown hgrow (gF _) (fun k e=>by simp[Value.ownBlock]at e)⟩
 obtain⟨u,w',hr,ho,hb⟩:=Bl;have HR:Hid ((Builtin.append_ #[36,36] 36 #[.slice none 0 0,.slice p M q]).run prog w=.ok u w'):=hr;have HO:Hid (w'.ownsRow w.heap.size 4 1 u M (Di M X)/\Below w.heap.size w w'):=⟨ho,hb⟩
 clear h hr ho hb;go_enter func37,ntmps37;go_wp2_with(at_builtin;refine AO rF _ _ _ rF _ _ _ rF rF HR.out ?_);go_ret;exact⟨u,rfl,HO.1,HO.2⟩
theorem Fq{P:Program}{w w':World}{o:Oper}{a:Act}{K:Act->World->Prop}{Q:Exit->Act->World->Prop}(s x:Operand)(t:TypeId)
 (ho:o.op=.call {callee:=.builtin .append,args:=#[s,x],argTypes:=#[t,t]}) (v v2 v':Value) (hs:a.eval s=v) (hx:a.eval x=v2) (hr:(Builtin.append_ #[t,t] o.type #[v,v2]).run P w=.ok v' w')
 (h:K (a.put o.dst v') w') (y':Bool) (hy:y'=true):if y'=true then Oper.wp P o a w K Q else K (a.put o.dst undef) w:=by
 rw[if_pos hy];exact Zeq
def okM(L:Lt):Bool:=decide (L.a=45->L.b=45->L.e=45\/L.e=113)&&(decide (L.a=45->L.b≠45->L.e=45\/L.e=112\/L.e=115)&&decide (L.a≠45->L.e=45\/L.e=105\/L.e=112\/L.e=115))
theorem Zy{p:Prop}[Decidable p]{x y:Lt}(h:okM x=true)(k:okM y=true):okM (if p then x else y)=true:=by
 split
 .exact h
 .exact k
theorem Zn(op:Int):okM (DR op)=true:=by
 unfold DR
 iterate 19 refine Zy dE ?_
 decide
theorem TP(v0 v1 v2 v3:Value)(c:Cd)(co:Ba c)(hT:Ax c=true)(i:Ad)(h0:0<=i.bits)(h1:i.bits<4294967296)(hk:Al i.op=true)(h2:(i.op==1||i.bits==0)=true)(h3:CN i.bits=true)(w:World)(hv:CD w v0 v1 v2 v3 c):
 Calls prog 57 #[.agg #[v0,v1,v2,v3],Ch i] w fun e w'=>e=.returned (.bool (Ew c i (DR i.op)))/\Below w.heap.size w w':=by
 have HCAN:Hid (∀w,Calls prog 56 #[.int .u32 i.bits] w fun e w'=>e=.returned (.bool true)/\Below w.heap.size w w'):=by rw[<-h3];exact Eg i.bits h0 h1
 obtain⟨a,b,cc,d,e,⟨ea,eb,ec,ed,ee⟩,hc⟩:=Si i.op hk;obtain⟨oa,ob,oc,od,oe,oT⟩:=ltR_ok i.op;have om:=Zn i.op;unfold okM at om;simp only[Bool.and_eq_true,decide_eq_true_eq]at om;obtain⟨m1,m2,m3⟩:=om;have hF:Ew c i (DR i.op)=(At c.regs (DR i.op).a i.d ⟨0,0⟩&&(At c.regs (DR i.op).b i.a (dR c.regs (DR i.op).a i.d)&&(At c.regs (DR i.op).c i.b (dR c.regs (DR i.op).a i.d)&&(At c.regs (DR i.op).d i.c (dR c.regs (DR i.op).a i.d)&&Dl c (DR i.op).e i.n (tR c.regs (DR i.op).a (DR i.op).b i.d i.a))))):=by
  unfold Ew;rw[h2,h3,Bool.true_and,Bool.true_and]
 rw[hF];clear hF h3;have ix0:∀w,(Instr.index 9 (.string ⟨#[a,b,cc,d,e]⟩) (.int .i64 0)).run prog w=.ok (.int .u8 (DR i.op).a) w:=fun w=>by rw[<-ea];simp[Instr.index,run_underlying underlying9,asIntOf,go_sem];rfl
 have ix1:∀w,(Instr.index 9 (.string ⟨#[a,b,cc,d,e]⟩) (.int .i64 1)).run prog w=.ok (.int .u8 (DR i.op).b) w:=fun w=>by rw[<-eb];simp[Instr.index,run_underlying underlying9,asIntOf,go_sem];rfl
 have ix2:∀w,(Instr.index 9 (.string ⟨#[a,b,cc,d,e]⟩) (.int .i64 2)).run prog w=.ok (.int .u8 (DR i.op).c) w:=fun w=>by rw[<-ec];simp[Instr.index,run_underlying underlying9,asIntOf,go_sem];rfl
 have ix3:∀w,(Instr.index 9 (.string ⟨#[a,b,cc,d,e]⟩) (.int .i64 3)).run prog w=.ok (.int .u8 (DR i.op).d) w:=fun w=>by rw[<-ed];simp[Instr.index,run_underlying underlying9,asIntOf,go_sem];rfl
 have Vz:∀w,(Instr.index 9 (.string ⟨#[a,b,cc,d,e]⟩) (.int .i64 4)).run prog w=.ok (.int .u8 (DR i.op).e) w:=fun w=>by rw[<-ee];simp[Instr.index,run_underlying underlying9,asIntOf,go_sem];rfl
 cases h:(i.op==1)
 .rw[h,Bool.false_or]at h2;have o2:(i.op != 1)=true:=by simpa using h
  have o4:(i.bits != 0)=false:=by simpa using h2
  by_cases hz:(DR i.op).a=45
  .exact ZT v0 v1 v2 v3 c co hT i.op i.d i.a i.b i.c i.n i.bits _ _ _ _ _ a b cc d e hc HCAN ix0 ix1 ix2 ix3 Vz oa ob oc od oT h o2 h2 o4 hz (m1 hz) (m2 hz) w hv
  .exact ZU v0 v1 v2 v3 c co hT i.op i.d i.a i.b i.c i.n i.bits _ _ _ _ _ a b cc d e hc HCAN ix0 ix1 ix2 ix3 Vz oa ob oc od oT h o2 h2 o4 hz (m3 hz) w hv
 .have o2:(i.op != 1)=false:=by simpa using h
  have e1:i.op=1:=by simpa using h
  have ha:(DR i.op).a≠45:=by rw[e1];decide
  have he:(DR i.op).e=45:=by rw[e1];rfl
  exact ZV v0 v1 v2 v3 c co hT i.op i.d i.a i.b i.c i.n i.bits _ _ _ _ _ a b cc d e hc HCAN ix0 ix1 ix2 ix3 Vz oa ob oc od oT h o2 ha he w hv
theorem TO(v0 v1 v2 v3:Value)(c:Cd)(co:Ba c)(hT:Ax c=true)(i:Ad)(h0:0<=i.bits)(h1:i.bits<4294967296)(w:World)(hv:CD w v0 v1 v2 v3 c):
 Calls prog 57 #[.agg #[v0,v1,v2,v3],Ch i] w fun e w'=>e=.returned (.bool (Al i.op&&Ew c i (DR i.op)))/\Below w.heap.size w w':=by
 cases hh:(Al i.op&&((i.op==1||i.bits==0)&&CN i.bits))
 .have e:(Al i.op&&Ew c i (DR i.op))=false:=by
   unfold Ew;revert hh;cases Al i.op<;>cases(i.op==1||i.bits==0)<;>cases CN i.bits<;>simp
  rw[e];exact Wy v0 v1 v2 v3 i h0 h1 hh w
 .simp only[Bool.and_eq_true]at hh;rw[hh.1,Bool.true_and];exact TP v0 v1 v2 v3 c co hT i h0 h1 hh.1 hh.2.1 hh.2.2 w hv
theorem ZR{c:Cd}{i:Ad}(h:AS c i (A4 i.op)=true):∀x∈Ae i (A4 i.op),0<=x/\x<(c.regs.length:Int):=by
 intro x hx;unfold Ae at hx;simp only[List.mem_append]at hx;rcases hx with hx|hx|hx
 .split at hx
  .simp at hx
  .rename_i e;simp at hx;subst hx;exact Ag (BD h) e
 .split at hx
  .simp at hx
  .rename_i e;simp at hx;subst hx;exact Ag (CP h) e
 .split at hx
  .simp at hx
  .rename_i e;simp at hx;subst hx;exact Ag (CQ h) e
theorem TI(i:Ad):(Ae i (A4 i.op)).length<=3:=by
 rw[F2];simp only[List.length_append];have a:=DS (A4 i.op).a i.a;have b:=DS (A4 i.op).b i.b;have d:=DS (A4 i.op).c i.c;omega
theorem Oy(v0 v1 v2 v3:Value)(c:Cd)(co:Ba c)(hT:Ax c=true)(i:Ad)(hb0:0<=i.bits)(hb1:i.bits<4294967296)(B:Nat)(s:Wk)(sv ov:Value)(us:List Value)(hM:c.regs.length<=16384)(ok:E5 c.regs.length s)(po:E6 s)(w:World)(hv:CD w v0 v1 v2 v3 c)(hs:SK B c.regs.length w sv ov s us):
 Calls prog 36 #[.agg #[v0,v1,v2,v3],Ch i,sv,ov] w fun e w'=>e=.returned (.bool (AG c s i))/\Below w.heap.size w w':=by
 rw[Uq hT po];have hfit:(Al i.op&&Ew c i (DR i.op))=true->AS c i (A4 i.op)=true:=fun h=>by simp only[Bool.and_eq_true]at h;rw[<-NJ hT];exact h.2
 have HFIT:Hid (∀v,Below w.heap.size w v->Calls prog 57 #[.agg #[v0,v1,v2,v3],Ch i] v fun e w'=>e=.returned (.bool (Al i.op&&Ew c i (DR i.op)))/\Below v.heap.size v w'):=fun v hb=>TO v0 v1 v2 v3 c co hT i hb0 hb1 v (hv.below hb);have HVEC:Hid (∀v,Below w.heap.size w v->Calls prog 58 #[.agg #[v0,v1,v2,v3],Ch i] v fun e w'=>e=.returned (.int .i64 (GF c.regs (FL i)))/\Below v.heap.size v w'):=fun v hb=>OD v0 v1 v2 v3 c co i v (hv.below hb);have HRD:Hid (∀v,Calls prog 59 #[Ch i] v fun e w'=>∃u,e=.returned u/\w'.ownsRow v.heap.size 3 1 u (Ae i (A4 i.op)).length (Cg (Ae i (A4 i.op)))/\Below v.heap.size v w'):=Qr i;have hR3:=TI i;have hRP:=fun h=>ZR (hfit h);have hRO:EQ s i (A4 i.op)=(Ae i (A4 i.op)).all fun n=>decide (n.toNat∈s.set):=rfl;rw[hRO];clear hfit hRO;unfold O1 OQ;obtain⟨Fi,hFi⟩:∃F,(Al i.op&&Ew c i (DR i.op))=F:=⟨_,rfl⟩
 rw[hFi]at HFIT hRP |-;obtain⟨V,hV⟩:=gA (GF c.regs (FL i))
 rw[hV]at HVEC |-;obtain⟨R,hR⟩:=gA (Ae i (A4 i.op))
 rw[hR]at HRD hR3 hRP |-;have hnest:=ok.nest;have hlast:=fun g q (e:ov=.slice (some ⟨g,0,none⟩) s.opens.length q)=>SK.last (e▸hs);obtain⟨p,q,rfl⟩:=AZ hs.opn;have hopn:0<s.opens.length->∃g,p=some ⟨g,0,none⟩:=fun h=>by
  obtain⟨g,cap,e,_⟩:=hs.opn.form h;simp only[Value.slice.injEq]at e;exact⟨g,e.1⟩
 obtain⟨ps,qs,rfl⟩:=AZ hs.set;have HSET:Hid (∀k,k<c.regs.length->∃g,ps=some ⟨g,0,none⟩/\w.cell? ⟨g,k,none⟩=some (.bool (decide (k∈s.set)))):=fun k hk=>by
  obtain⟨g,cap,e,_⟩:=hs.set.form oM;simp only[Value.slice.injEq]at e;obtain⟨rfl,-,-⟩:=e;exact⟨g,rfl,by rw[hs.set.cellAt k oM,Hz hk]⟩
 have hz:s.opens.length=0->AD s=false:=fun h=>by
  obtain⟨S,O⟩:=s;cases O with
  |nil=>rfl
  |cons b r=>simp at h
 obtain⟨S,hS⟩:=gA (s.set)
 obtain⟨n,hn⟩:=gA (s.opens.length)
 obtain⟨lp,hlp⟩:∃l,AD s=l:=⟨_,rfl⟩
 obtain⟨par,hpar⟩:∃l,Co s=l:=⟨_,rfl⟩
 obtain⟨M,hMM⟩:=gA (c.regs.length)
 rw[hn]at hnest hlast hopn hz |-;rw[hlp]at hlast hz |-;rw[hpar]at hlast |-;rw[hS]at HSET |-;rw[hMM]at hM HSET hRP hlast |-;clear hFi hV hR hs ok po hv co hT hS hn hlp hpar hMM;obtain⟨op,D,A,Q,E,nn,bt⟩:=i;unfold Ch at HFIT HVEC HRD |-;simp only at HFIT HVEC HRD hb0 hb1 |-;clear hb0 hb1;have HT0:Hid (TW w v0 v1 v2 v3 (w.heap.size+1) op D A Q E nn bt ((w.alloc (.cells #[v0,v1,v2,v3] 27)).alloc (.cells #[.int .i64 op,.int .i64 D,.int .i64 A,.int .i64 Q,.int .i64 E,.int .i64 nn,.int .u32 bt] 40))):=TW.start w v0 v1 v2 v3 op D A Q E nn bt;obtain⟨hb00,c0,c1,c2,c3,i0,i1,i2,i3,i4,i5,i6⟩:=HT0.out;have hcase:(n=0/\lp=false)\/(∃m g,m+1=n/\p=some ⟨g,0,none⟩/\lp=false/\w.cell? ⟨g,m*3,none⟩=some (.int .i64 34))\/(∃m g,m+1=n/\p=some ⟨g,0,none⟩/\lp=true/\w.cell? ⟨g,m*3,none⟩=some (.int .i64 36)/\w.cell? ⟨g,m*3+1,none⟩=some (.int .i64 par)):=by
  by_cases h0:n=0
  .exact .inl ⟨h0,hz h0⟩
  .obtain⟨g,rfl⟩:=hopn oM;obtain⟨X,u,-,-,a0,a1,-⟩:=hlast g q rfl oM;obtain⟨m,rfl⟩:∃m,n=m+1:=⟨n-1,oM⟩
   rw[Nat.add_sub_cancel]at a0 a1;cases lp
   .exact .inr (.inl ⟨m,g,rfl,rfl,rfl,a0⟩)
   .exact .inr (.inr ⟨m,g,rfl,rfl,rfl,a0,a1⟩)
 clear hlast hopn hz;have HRP:Hid (Fi=true->∀x∈R,0<=x/\x<(M:Int)):=hRP;clear hRP;obtain⟨RES,hRES⟩:∃X,(Fi&&(!(lp&&(op != 37&&V != par))&&((R.all fun n=>decide (n.toNat∈S))&&(if op=34\/op=36 then decide (n<64)else if op=35 then decide (0<n)&& !lp else if op=37 then lp else true))))=X:=⟨_,rfl⟩
 rw[hRES];cases Fi
 .have HQF:Hid (false=RES):=hRES;clear hRES;rcases hcase with⟨rfl,rfl⟩|⟨m,g,hm,rfl,rfl,z0⟩|⟨m,g,hm,rfl,rfl,z0,z1⟩
  .exact Zak
  .have hw:IntKind.i64.wrap ((n:Int)-1)=(m:Int):=by rw[IntKind.wrap_i64];omega
   have x0:=kc hb00 z0;have j0:(0:Int)<(n:Int):=oM;have j1:(0:Int)<=(m:Int):=oM;have j2:(m:Int)<(n:Int):=oM;exact Zak
  .have hw:IntKind.i64.wrap ((n:Int)-1)=(m:Int):=by rw[IntKind.wrap_i64];omega
   have x0:=kc hb00 z0;have j0:(0:Int)<(n:Int):=oM;have j1:(0:Int)<=(m:Int):=oM;have j2:(m:Int)<(n:Int):=oM;exact Zak
 .rw[Bool.true_and]at hRES;have HRP1:Hid (∀x∈R,0<=x/\x<(M:Int)):=HRP.out rfl;clear HRP;rcases hcase with⟨hn0,rfl⟩|⟨m,g,hm,rfl,rfl,z0⟩|⟨m,g,hm,rfl,rfl,z0,z1⟩
  .rw[Bool.false_and,Bool.not_false,Bool.true_and]at hRES;have HR2:Hid (((R.all fun n=>decide (n.toNat∈S))&&(if op=34\/op=36 then decide (n<64)else if op=35 then decide (0<n)&& !false else if op=37 then false else true))=RES):=hRES;clear hRES;have j0:¬ (0:Int)<(n:Int):=oM;go_enter func36,ntmps36;go_wp2;refine rG (fun v=>v.cell? ⟨w.heap.size,0,none⟩=some v0/\v.cell? ⟨w.heap.size,1,none⟩=some v1/\v.cell? ⟨w.heap.size,2,none⟩=some v2/\v.cell? ⟨w.heap.size,3,none⟩=some v3/\v.cell? ⟨w.heap.size+1,0,none⟩=some (.int .i64 op)/\v.cell? ⟨w.heap.size+1,1,none⟩=some (.int .i64 D)/\v.cell? ⟨w.heap.size+1,2,none⟩=some (.int .i64 A)/\v.cell? ⟨w.heap.size+1,3,none⟩=some (.int .i64 Q)/\v.cell? ⟨w.heap.size+1,4,none⟩=some (.int .i64 E)/\v.cell? ⟨w.heap.size+1,5,none⟩=some (.int .i64 nn)/\v.cell? ⟨w.heap.size+1,6,none⟩=some (.int .u32 bt)) fun hJ=>?_;refine Tb 0 1 ?_;clear hJ;refine Aw 2 fun K hK=>?_;go_simp;(go_at_call 57;(with_reducible refine(HFIT.out _ (bel HT0.out.bel (A9 _))).mono ?_);rintro e wz ⟨rfl,hbz⟩;have HBZ:Hid (Below ((w.alloc (.cells #[v0,v1,v2,v3] 27)).alloc (.cells #[.int .i64 op,.int .i64 D,.int .i64 A,.int .i64 Q,.int .i64 E,.int .i64 nn,.int .u32 bt] 40)).heap.size ((w.alloc (.cells #[v0,v1,v2,v3] 27)).alloc (.cells #[.int .i64 op,.int .i64 D,.int .i64 A,.int .i64 Q,.int .i64 E,.int .i64 nn,.int .u32 bt] 40)) wz):=bel (A9 _) hbz;clear hbz;obtain⟨-,c0,c1,c2,c3,i0,i1,i2,i3,i4,i5,i6⟩:=HT0.out.next HBZ.out);try(go_wp2_with fail)
   refine Aq hK fun hJ=>?_;clear hK K;refine Tc 3 4 5 ?_;refine Bo 6 ?_;refine Ep 7 ?_;refine Ep 8 ?_;refine Ep 9 ?_;refine Tb 10 11 ?_;refine Kd 12 13 14 15 ?_;refine Kd 16 17 18 19 ?_;refine Ep 20 ?_;refine Ep 21 ?_;refine Ep 22 ?_;refine Tb 23 24 ?_;refine wpAnyH_done kR ?_ _;clear j0;exact Zab
  .rw[Bool.false_and,Bool.not_false,Bool.true_and]at hRES;have HR2:Hid (((R.all fun n=>decide (n.toNat∈S))&&(if op=34\/op=36 then decide (n<64)else if op=35 then decide (0<n)&& !false else if op=37 then false else true))=RES):=hRES;clear hRES;have hw:IntKind.i64.wrap ((n:Int)-1)=(m:Int):=by rw[IntKind.wrap_i64];omega
   have x0:=kc hb00 z0;have j0:(0:Int)<(n:Int):=oM;have j1:(0:Int)<=(m:Int):=oM;have j2:(m:Int)<(n:Int):=oM;go_enter func36,ntmps36;go_wp2;refine rG (fun v=>v.cell? ⟨w.heap.size,0,none⟩=some v0/\v.cell? ⟨w.heap.size,1,none⟩=some v1/\v.cell? ⟨w.heap.size,2,none⟩=some v2/\v.cell? ⟨w.heap.size,3,none⟩=some v3/\v.cell? ⟨w.heap.size+1,0,none⟩=some (.int .i64 op)/\v.cell? ⟨w.heap.size+1,1,none⟩=some (.int .i64 D)/\v.cell? ⟨w.heap.size+1,2,none⟩=some (.int .i64 A)/\v.cell? ⟨w.heap.size+1,3,none⟩=some (.int .i64 Q)/\v.cell? ⟨w.heap.size+1,4,none⟩=some (.int .i64 E)/\v.cell? ⟨w.heap.size+1,5,none⟩=some (.int .i64 nn)/\v.cell? ⟨w.heap.size+1,6,none⟩=some (.int .u32 bt)) fun hJ=>?_;refine Tb 0 1 ?_;clear hJ;refine Aw 2 fun K hK=>?_;go_simp;(go_at_call 57;(with_reducible refine(HFIT.out _ (bel HT0.out.bel (A9 _))).mono ?_);rintro e wz ⟨rfl,hbz⟩;have HBZ:Hid (Below ((w.alloc (.cells #[v0,v1,v2,v3] 27)).alloc (.cells #[.int .i64 op,.int .i64 D,.int .i64 A,.int .i64 Q,.int .i64 E,.int .i64 nn,.int .u32 bt] 40)).heap.size ((w.alloc (.cells #[v0,v1,v2,v3] 27)).alloc (.cells #[.int .i64 op,.int .i64 D,.int .i64 A,.int .i64 Q,.int .i64 E,.int .i64 nn,.int .u32 bt] 40)) wz):=bel (A9 _) hbz;clear hbz;obtain⟨-,c0,c1,c2,c3,i0,i1,i2,i3,i4,i5,i6⟩:=HT0.out.next HBZ.out);try(go_wp2_with fail)
   refine Aq hK fun hJ=>?_;clear hK K;refine Tc 3 4 5 ?_;refine Bo 6 ?_;refine Ep 7 ?_;refine Ep 8 ?_;refine Ep 9 ?_;refine Tb 10 11 ?_;refine Kd 12 13 14 15 ?_;refine Kd 16 17 18 19 ?_;refine Ep 20 ?_;refine Ep 21 ?_;refine Ep 22 ?_;refine Tb 23 24 ?_;refine wpAnyH_done kR ?_ _;clear j0 j1 j2 hw;exact Zab
  .rw[Bool.true_and]at hRES;have hw:IntKind.i64.wrap ((n:Int)-1)=(m:Int):=by rw[IntKind.wrap_i64];omega
   have x0:=kc hb00 z0;have j0:(0:Int)<(n:Int):=oM;have j1:(0:Int)<=(m:Int):=oM;have j2:(m:Int)<(n:Int):=oM;have y1:=kc hb00 z1;by_cases h7:op=37
   .subst h7;rw[show((37:Int) != 37)=false from rfl,Bool.false_and,Bool.not_false,Bool.true_and]at hRES;have HR2:Hid (((R.all fun n=>decide (n.toNat∈S))&&(if(37:Int)=34\/(37:Int)=36 then decide (n<64)else if(37:Int)=35 then decide (0<n)&& !true else if(37:Int)=37 then true else true))=RES):=hRES;clear hRES;go_enter func36,ntmps36;go_wp2;refine rG (fun v=>v.cell? ⟨w.heap.size,0,none⟩=some v0/\v.cell? ⟨w.heap.size,1,none⟩=some v1/\v.cell? ⟨w.heap.size,2,none⟩=some v2/\v.cell? ⟨w.heap.size,3,none⟩=some v3/\v.cell? ⟨w.heap.size+1,0,none⟩=some (.int .i64 37)/\v.cell? ⟨w.heap.size+1,1,none⟩=some (.int .i64 D)/\v.cell? ⟨w.heap.size+1,2,none⟩=some (.int .i64 A)/\v.cell? ⟨w.heap.size+1,3,none⟩=some (.int .i64 Q)/\v.cell? ⟨w.heap.size+1,4,none⟩=some (.int .i64 E)/\v.cell? ⟨w.heap.size+1,5,none⟩=some (.int .i64 nn)/\v.cell? ⟨w.heap.size+1,6,none⟩=some (.int .u32 bt)) fun hJ=>?_;refine Tb 0 1 ?_;clear hJ;refine Aw 2 fun K hK=>?_;go_simp;(go_at_call 57;(with_reducible refine(HFIT.out _ (bel HT0.out.bel (A9 _))).mono ?_);rintro e wz ⟨rfl,hbz⟩;have HBZ:Hid (Below ((w.alloc (.cells #[v0,v1,v2,v3] 27)).alloc (.cells #[.int .i64 37,.int .i64 D,.int .i64 A,.int .i64 Q,.int .i64 E,.int .i64 nn,.int .u32 bt] 40)).heap.size ((w.alloc (.cells #[v0,v1,v2,v3] 27)).alloc (.cells #[.int .i64 37,.int .i64 D,.int .i64 A,.int .i64 Q,.int .i64 E,.int .i64 nn,.int .u32 bt] 40)) wz):=bel (A9 _) hbz;clear hbz;obtain⟨-,c0,c1,c2,c3,i0,i1,i2,i3,i4,i5,i6⟩:=HT0.out.next HBZ.out);try(go_wp2_with fail)
    refine Aq hK fun hJ=>?_;clear hK K;refine Tf 3 4 5 6 7 8 ?_;refine Tc 9 10 11 ?_;refine Kd 12 13 14 15 ?_;refine Kd 16 17 18 19 ?_;refine Ep 20 ?_;refine Ep 21 ?_;refine Ep 22 ?_;refine Tb 23 24 ?_;refine wpAnyH_done kR ?_ _;clear j0 j1 j2 hw y1;have HTZ:Hid (TW w v0 v1 v2 v3 (w.heap.size+1) 37 D A Q E nn bt wz):=HT0.out.next HBZ.out;go_wp2_with(go_at_call 59;(with_reducible refine(HRD.out _).mono ?_);rintro e w5 ⟨u,rfl,hou,hb5⟩;obtain⟨pu,qu,rfl⟩:=AZ hou;have HOU:Hid (w5.ownsRow wz.heap.size 3 1 (.slice pu R.length qu) R.length (Cg R)):=hou;have HB5:Hid (Below wz.heap.size wz w5):=hb5;clear hou hb5)
    go_loopw [11] (fun kv wr=>∃k:Nat,k<=R.length/\kv=.int .i64 (k:Int)/\wr=w5/\∀x∈R.take k,x.toNat∈S) (fun kv _=>R.length-(intOf kv).toNat)
    case atStart=>exact⟨0,gI _,rfl,rfl,fun x hx=>by simp at hx⟩
    case round=>
     obtain⟨k,hk,rfl,rfl,hin⟩:=hrel;clear c0 c1 c2 c3 i0 i1 i2 i3 i4 i5 i6;obtain⟨hbq,c0,c1,c2,c3,i0,i1,i2,i3,i4,i5,i6⟩:=HTZ.next HB5.out;by_cases hlt:k<R.length
     .have hx:=HRP1.out R[k] (gD hlt);obtain⟨d,hd⟩:∃d:Nat,R[k]=(d:Int):=⟨R[k].toNat,oM⟩
      obtain⟨gs,rfl,hcs⟩:=HSET.out d oM;have hcs':=kc hbq hcs;obtain⟨gu,cu,eu,-⟩:=HOU.form oM;simp only[Value.slice.injEq]at eu;obtain⟨rfl,-,rfl⟩:=eu;have hcu:wr.cell? ⟨gu,k,none⟩=some (.int .i64 (d:Int)):=by rw[HOU.cellAt k oM];simp[Cg,hlt,hd]
      have HMEM:Hid (R[k]=(d:Int)):=hd;have HIN:Hid (∀x∈R.take k,x.toNat∈S):=hin;have t0:(0:Int)<=(k:Int):=oM;have t1:(k:Int)<(R.length:Int):=oM;have t2:(0:Int)<=(d:Int):=oM;have t3:(d:Int)<(M:Int):=oM;have wk:IntKind.i64.wrap ((k:Int)+1)=((k+1:Nat):Int):=by rw[IntKind.wrap_i64];omega
      clear hx hd hin hcs hk;cases hX:decide (d∈S)
      .rw[hX]at hcs';have hall:(R.all fun n=>decide (n.toNat∈S))=false:=by
        rw[List.all_eq_false];exact⟨R[k],gD hlt,by rw[HMEM.out,Int.toNat_natCast,hX];decide⟩
       have HQF:Hid (false=RES):=by show _=_;have:=HR2.out;rw[hall,Bool.false_and]at this;exact this
       clear hX hall;go_wp2;go_ret;exact⟨Ab HQF.out,hbq⟩
      .rw[hX]at hcs';have HX:Hid (d∈S):=by show d∈S;exact of_decide_eq_true hX
       clear hX;go_wp2;go_roundw
       case rel=>
        refine⟨k+1,oM,gN,fT,fun x hx=>?_⟩;rw[List.take_succ_eq_append_getElem hlt,List.mem_append]at hx;rcases hx with hx|hx
        .exact HIN.out x hx
        .simp only[List.mem_singleton]at hx;rw[hx,HMEM.out,Int.toNat_natCast];exact HX.out
       case measure=>simp[intOf];omega
     .have hkk:k=R.length:=oM;have hall:(R.all fun n=>decide (n.toNat∈S))=true:=by
       rw[List.all_eq_true];intro x hx;rw[hkk,List.take_length]at hin;simpa using hin x hx
      have h9:=HR2.out;rw[hall,Bool.true_and]at h9;have HTS:Hid _:=h9;clear h9;have t1:¬ (k:Int)<(R.length:Int):=oM;clear hall hin hk hlt;have HQ:Hid (true=RES):=by show _=_;have:=HTS.out;simpa using this
      go_wp2;go_ret;exact⟨Ab HQ.out,hbq⟩
   .have h7':(op != 37)=true:=by simpa using h7
    have h7b:(op==37)=false:=by simpa using h7
    rw[h7',Bool.true_and]at hRES;cases hVV:(V != par)
    .rw[hVV,Bool.not_false,Bool.true_and]at hRES;have HR2:Hid (((R.all fun n=>decide (n.toNat∈S))&&(if op=34\/op=36 then decide (n<64)else if op=35 then decide (0<n)&& !true else if op=37 then true else true))=RES):=hRES;clear hRES;have hVb:(V==par)=true:=by simpa using hVV
     go_enter func36,ntmps36;go_wp2;refine rG (fun v=>v.cell? ⟨g,m*3+1,none⟩=some (.int .i64 par)/\v.cell? ⟨w.heap.size,0,none⟩=some v0/\v.cell? ⟨w.heap.size,1,none⟩=some v1/\v.cell? ⟨w.heap.size,2,none⟩=some v2/\v.cell? ⟨w.heap.size,3,none⟩=some v3/\v.cell? ⟨w.heap.size+1,0,none⟩=some (.int .i64 op)/\v.cell? ⟨w.heap.size+1,1,none⟩=some (.int .i64 D)/\v.cell? ⟨w.heap.size+1,2,none⟩=some (.int .i64 A)/\v.cell? ⟨w.heap.size+1,3,none⟩=some (.int .i64 Q)/\v.cell? ⟨w.heap.size+1,4,none⟩=some (.int .i64 E)/\v.cell? ⟨w.heap.size+1,5,none⟩=some (.int .i64 nn)/\v.cell? ⟨w.heap.size+1,6,none⟩=some (.int .u32 bt)) fun hJ=>?_;refine Tb 0 1 ?_;clear hJ;refine Aw 2 fun K hK=>?_;go_simp;(go_at_call 57;(with_reducible refine(HFIT.out _ (bel HT0.out.bel (A9 _))).mono ?_);rintro e w1 ⟨rfl,hb1⟩;have HB1:Hid (Below ((w.alloc (.cells #[v0,v1,v2,v3] 27)).alloc (.cells #[.int .i64 op,.int .i64 D,.int .i64 A,.int .i64 Q,.int .i64 E,.int .i64 nn,.int .u32 bt] 40)).heap.size ((w.alloc (.cells #[v0,v1,v2,v3] 27)).alloc (.cells #[.int .i64 op,.int .i64 D,.int .i64 A,.int .i64 Q,.int .i64 E,.int .i64 nn,.int .u32 bt] 40)) w1):=bel (A9 _) hb1;clear hb1;obtain⟨-,c0,c1,c2,c3,i0,i1,i2,i3,i4,i5,i6⟩:=HT0.out.next HB1.out;have y1:=kc (bel HT0.out.bel HB1.out) z1);try(go_wp2_with fail)
     refine Aq hK fun hJ=>?_;clear hK K;refine Tf 3 4 5 6 7 8 ?_;refine Tf 9 10 11 12 13 15 ?_;refine Tf 16 17 18 19 20 21 ?_;clear hJ;refine Aw 14 fun K hK=>?_;go_simp;(go_at_call 58;(with_reducible refine(HVEC.out _ (bel HT0.out.bel HB1.out)).mono ?_);rintro e wz ⟨rfl,hbz⟩;have HBZ:Hid (Below ((w.alloc (.cells #[v0,v1,v2,v3] 27)).alloc (.cells #[.int .i64 op,.int .i64 D,.int .i64 A,.int .i64 Q,.int .i64 E,.int .i64 nn,.int .u32 bt] 40)).heap.size ((w.alloc (.cells #[v0,v1,v2,v3] 27)).alloc (.cells #[.int .i64 op,.int .i64 D,.int .i64 A,.int .i64 Q,.int .i64 E,.int .i64 nn,.int .u32 bt] 40)) wz):=bel HB1.out hbz;clear hbz c0 c1 c2 c3 i0 i1 i2 i3 i4 i5 i6 y1;obtain⟨-,c0,c1,c2,c3,i0,i1,i2,i3,i4,i5,i6⟩:=HT0.out.next HBZ.out;have y1:=kc (bel HT0.out.bel HBZ.out) z1);try(go_wp2_with fail)
     refine Aq hK fun hJ=>?_;clear hK K;refine Tc 22 23 24 ?_;refine wpAnyH_done kR ?_ _;clear j0 j1 j2 hw y1 h7' h7b;exact Zab
    .rw[hVV,Bool.not_true,Bool.false_and]at hRES;have HQF:Hid (false=RES):=hRES;clear hRES;have hVb:(V==par)=false:=by simpa using hVV
     go_enter func36,ntmps36;go_wp2;refine rG (fun v=>v.cell? ⟨g,m*3+1,none⟩=some (.int .i64 par)/\v.cell? ⟨w.heap.size,0,none⟩=some v0/\v.cell? ⟨w.heap.size,1,none⟩=some v1/\v.cell? ⟨w.heap.size,2,none⟩=some v2/\v.cell? ⟨w.heap.size,3,none⟩=some v3/\v.cell? ⟨w.heap.size+1,0,none⟩=some (.int .i64 op)/\v.cell? ⟨w.heap.size+1,1,none⟩=some (.int .i64 D)/\v.cell? ⟨w.heap.size+1,2,none⟩=some (.int .i64 A)/\v.cell? ⟨w.heap.size+1,3,none⟩=some (.int .i64 Q)/\v.cell? ⟨w.heap.size+1,4,none⟩=some (.int .i64 E)/\v.cell? ⟨w.heap.size+1,5,none⟩=some (.int .i64 nn)/\v.cell? ⟨w.heap.size+1,6,none⟩=some (.int .u32 bt)) fun hJ=>?_;refine Tb 0 1 ?_;clear hJ;refine Aw 2 fun K hK=>?_;go_simp;(go_at_call 57;(with_reducible refine(HFIT.out _ (bel HT0.out.bel (A9 _))).mono ?_);rintro e w1 ⟨rfl,hb1⟩;have HB1:Hid (Below ((w.alloc (.cells #[v0,v1,v2,v3] 27)).alloc (.cells #[.int .i64 op,.int .i64 D,.int .i64 A,.int .i64 Q,.int .i64 E,.int .i64 nn,.int .u32 bt] 40)).heap.size ((w.alloc (.cells #[v0,v1,v2,v3] 27)).alloc (.cells #[.int .i64 op,.int .i64 D,.int .i64 A,.int .i64 Q,.int .i64 E,.int .i64 nn,.int .u32 bt] 40)) w1):=bel (A9 _) hb1;clear hb1;obtain⟨-,c0,c1,c2,c3,i0,i1,i2,i3,i4,i5,i6⟩:=HT0.out.next HB1.out;have y1:=kc (bel HT0.out.bel HB1.out) z1);try(go_wp2_with fail)
     refine Aq hK fun hJ=>?_;clear hK K;refine Tf 3 4 5 6 7 8 ?_;refine Tf 9 10 11 12 13 15 ?_;refine Tf 16 17 18 19 20 21 ?_;clear hJ;refine Aw 14 fun K hK=>?_;go_simp;(go_at_call 58;(with_reducible refine(HVEC.out _ (bel HT0.out.bel HB1.out)).mono ?_);rintro e wz ⟨rfl,hbz⟩;have HBZ:Hid (Below ((w.alloc (.cells #[v0,v1,v2,v3] 27)).alloc (.cells #[.int .i64 op,.int .i64 D,.int .i64 A,.int .i64 Q,.int .i64 E,.int .i64 nn,.int .u32 bt] 40)).heap.size ((w.alloc (.cells #[v0,v1,v2,v3] 27)).alloc (.cells #[.int .i64 op,.int .i64 D,.int .i64 A,.int .i64 Q,.int .i64 E,.int .i64 nn,.int .u32 bt] 40)) wz):=bel HB1.out hbz;clear hbz c0 c1 c2 c3 i0 i1 i2 i3 i4 i5 i6 y1;obtain⟨-,c0,c1,c2,c3,i0,i1,i2,i3,i4,i5,i6⟩:=HT0.out.next HBZ.out;have y1:=kc (bel HT0.out.bel HBZ.out) z1);try(go_wp2_with fail)
     refine Aq hK fun hJ=>?_;clear hK K;refine Tc 22 23 24 ?_;refine wpAnyH_done kR ?_ _;go_wp2;go_ret;exact⟨Ab HQF.out,bel hb00 HBZ.out⟩
structure CX(w:World)(v0 v1 v2 v3:Value)(v:World):Prop where
 bel:Below w.heap.size w v
 lt:w.heap.size<v.heap.size
 c0:v.cell? ⟨w.heap.size,0,none⟩=some v0
 c1:v.cell? ⟨w.heap.size,1,none⟩=some v1
 c2:v.cell? ⟨w.heap.size,2,none⟩=some v2
 c3:v.cell? ⟨w.heap.size,3,none⟩=some v3
theorem CX.next{w:World}{v0 v1 v2 v3:Value}{v v':World}(h:CX w v0 v1 v2 v3 v)(k:Below v.heap.size v v'):CX w v0 v1 v2 v3 v':=
 ⟨Go.Proofs.YtnbccaicijcklaaGreat.bel h.bel k,Nat.lt_of_lt_of_le h.lt k.size,kc k h.c0,kc k h.c1,kc k h.c2,kc k h.c3⟩
theorem CX.on{w:World}{v0 v1 v2 v3:Value}{v v':World}(h:CX w v0 v1 v2 v3 v)(k:Below (w.heap.size+1) v v'):CX w v0 v1 v2 v3 v':=
 have f:∀j,v'.cell? ⟨w.heap.size,j,none⟩=v.cell? ⟨w.heap.size,j,none⟩:=fun j=>k.cell (Nat.lt_succ_self _)
 ⟨h.bel.trans (k.mono (Nat.le_succ _)),Nat.lt_of_lt_of_le h.lt k.size,(f 0).trans h.c0,(f 1).trans h.c1,(f 2).trans h.c2,(f 3).trans h.c3⟩
theorem CX.start(w:World)(v0 v1 v2 v3:Value):CX w v0 v1 v2 v3 (w.alloc (.cells #[v0,v1,v2,v3] 27)):=
 ⟨A0 _ _,sM,sG,sG,sG,sG⟩
theorem No{α:Type}(p:α->Bool){l:List α}{k:Nat}(h:k<l.length)(ht:(l.take k).all p=true)(hp:p l[k]=true):(l.take (k+1)).all p=true:=by
 rw[List.take_succ_eq_append_getElem h,List.all_append,ht];simp[hp]
theorem QQ{α:Type}(p:α->Bool){l:List α}{k:Nat}(h:k<l.length)(hp:p l[k]=false):l.all p=false:=by
 rw[List.all_eq_false];exact⟨l[k],gD h,by simp[hp]⟩
theorem Fp(v0 v1 v2 v3:Value)(c:Cd)(hk:Ba c)(w:World)(hv:CD w v0 v1 v2 v3 c)(E:Int)(hE:(B0 c.sign≠0/\E=B0 c.sign)\/(B0 c.sign=0/\(16384<c.regs.length\/32768<c.list.length)/\E=181)\/(B0 c.sign=0/\¬16384<c.regs.length/\¬32768<c.list.length/\4096<c.slots.length/\E=180)):
 Calls prog 19 #[.agg #[v0,v1,v2,v3]] w fun e w'=>e=.returned (.tuple #[.int .i64 E,.int .i64 (-1)])/\Below w.heap.size w w':=by
 have hSG:∀v,Below w.heap.size w v->Calls prog 33 #[v0] v fun e w'=>e=.returned (.int .i64 (B0 c.sign))/\Below v.heap.size v w':=fun v hb=>Kh v0 c.sign hk.signL hk.names v (hv.below hb).sign.rd;have l1:=hk.regsL;have l2:=hk.slotsL;have l3:=hk.listL;obtain⟨p0,q0,rfl,-⟩:=id hv.sign;obtain⟨p1,q1,rfl,-⟩:=id hv.regs;obtain⟨p2,q2,rfl,-⟩:=id hv.slots;obtain⟨p3,q3,rfl,-⟩:=id hv.list;obtain⟨n0,hn0⟩:∃n,c.sign.length=n:=⟨_,rfl⟩
 obtain⟨n1,hn1⟩:∃n,c.regs.length=n:=⟨_,rfl⟩
 obtain⟨n2,hn2⟩:∃n,c.slots.length=n:=⟨_,rfl⟩
 obtain⟨n3,hn3⟩:∃n,c.list.length=n:=⟨_,rfl⟩
 obtain⟨K,hK⟩:∃n,B0 c.sign=n:=⟨_,rfl⟩
 rw[hn0,hK]at hSG;rw[hK,hn1,hn2,hn3]at hE;rw[hn1]at l1;rw[hn2]at l2;rw[hn3]at l3;rw[hn0,hn1,hn2,hn3];have HSG:Hid _:=hSG;clear hSG hn0 hn1 hn2 hn3 hK hv hk;rcases hE with⟨h1,rfl⟩|⟨rfl,h2,rfl⟩|⟨rfl,h2,h3,h4,rfl⟩
 .have h1':(E==0)=false:=by simpa using h1
  have h1'':(E != 0)=true:=by simpa using h1
  exact Zbf
 .by_cases h5:16384<n1
  .have h6:(16384:Int)<(n1:Int):=oM;exact Zbf
  .have h6:(n1:Int)<=16384:=oM;have h7:(32768:Int)<(n3:Int):=oM;clear h5;exact Zbf
 .have h6:(n1:Int)<=16384:=oM;have h7:(n3:Int)<=32768:=oM;have h8:(4096:Int)<(n2:Int):=oM;exact Zbf
theorem und_O:prog.underlying 98=some (.slice (prog.elem 98)):=kR
theorem elem_O:prog.elem 98=102:=kR
theorem XN(w:World):(sizeOf (prog.elem 98)).run prog w=.ok 3 w:=by rw[elem_O];exact Tryz.sizeOf102 w
theorem Hv{a b x y:Int}(h:(a,b)=(x,y)):(Ending.returned (.tuple #[.int .i64 a,.int .i64 b]))=.returned (.tuple #[.int .i64 x,.int .i64 y]):=by cases h;rfl
theorem Oj(v0 v1 v2 v3:Value)(c:Cd)(hk:Ba c)(w:World)(hv:CD w v0 v1 v2 v3 c)(hS:B0 c.sign=0)(h1:c.regs.length<=16384)(h3:c.list.length<=32768)(h2:c.slots.length<=4096)(RA RB:Int)(hRES:(if(Ax c&&BI c)=true then L6 c ⟨[],[]⟩ 0 c.list else(160,-1))=(RA,RB)):
 Calls prog 19 #[.agg #[v0,v1,v2,v3]] w fun e w'=>e=.returned (.tuple #[.int .i64 RA,.int .i64 RB])/\Below w.heap.size w w':=by
 have hSG:∀v,Below w.heap.size w v->Calls prog 33 #[v0] v fun e w'=>e=.returned (.int .i64 0)/\Below v.heap.size v w':=fun v hb=>by rw[<-hS];exact Kh v0 c.sign hk.signL hk.names v (hv.below hb).sign.rd
 have l0:=hk.signL;obtain⟨p0,q0,rfl,-⟩:=id hv.sign;obtain⟨p1,q1,rfl,-⟩:=id hv.regs;obtain⟨p2,q2,rfl,-⟩:=id hv.slots;obtain⟨p3,q3,rfl,-⟩:=id hv.list;have HREGS:Hid (AV 2 J6 w (.slice p1 c.regs.length q1) c.regs):=hv.regs;have HSLOTS:Hid (AV 5 Jf w (.slice p2 c.slots.length q2) c.slots):=hv.slots;have HLIST:Hid (AV 7 C9 w (.slice p3 c.list.length q3) c.list):=hv.list;have HMT:Hid (∀ (t:Ty) v,Calls prog 34 #[.agg #[.int .i64 t.kind,.int .i64 t.par],.slice p0 c.sign.length q0] v fun e w'=>e=.returned (.bool (AF t c.sign.length))/\Below v.heap.size v w'):=fun t v=>Hw t p0 _ q0 hk.signL v;have HMS:Hid (∀ (s:Sl),s∈c.slots->∀v,Calls prog 35 #[.agg #[.int .i64 s.ty.kind,.int .i64 s.ty.par,.bool s.keep,.int .u32 s.bits,.int .i64 s.int_],.slice p0 c.sign.length q0] v fun e w'=>e=.returned (.bool (Be s c.sign.length))/\Below v.heap.size v w'):=fun s hs v=>N7 s (hk.sbits s hs).1 (hk.sbits s hs).2 p0 _ q0 hk.signL v;have HCV:Hid (CD w (.slice p0 c.sign.length q0) (.slice p1 c.regs.length q1) (.slice p2 c.slots.length q2) (.slice p3 c.list.length q3) c):=hv;have HCO:Hid (Ba c):=hk;have HRES:Hid ((if(Ax c&&BI c)=true then L6 c ⟨[],[]⟩ 0 c.list else(160,-1))=(RA,RB)):=hRES;obtain⟨n0,hn0⟩:∃n,c.sign.length=n:=⟨_,rfl⟩
 obtain⟨n1,hn1⟩:∃n,c.regs.length=n:=⟨_,rfl⟩
 obtain⟨n2,hn2⟩:∃n,c.slots.length=n:=⟨_,rfl⟩
 obtain⟨n3,hn3⟩:∃n,c.list.length=n:=⟨_,rfl⟩
 have HN0:Hid (c.sign.length=n0):=hn0;have HN1:Hid (c.regs.length=n1):=hn1;have HN2:Hid (c.slots.length=n2):=hn2;have HN3:Hid (c.list.length=n3):=hn3;rw[hn0]at hSG l0 HMT HMS;rw[hn1]at h1 HREGS;rw[hn2]at h2 HSLOTS;rw[hn3]at h3 HLIST;rw[hn0,hn1,hn2,hn3]at HCV |-;have HSG:Hid _:=hSG;have g1:(n1:Int)<=16384:=oM;have g2:(n2:Int)<=4096:=oM;have g3:(n3:Int)<=32768:=oM;clear hSG hn0 hn1 hn2 hn3 hv hk hS hRES;go_enter func19,ntmps19;go_wp2_with(go_at_call 33;(with_reducible refine(HSG.out _ (A0 _ _)).mono ?_);rintro e w1 ⟨rfl,hb1⟩;have HX1:Hid (CX w (.slice p0 n0 q0) (.slice p1 n1 q1) (.slice p2 n2 q2) (.slice p3 n3 q3) w1):=(CX.start w _ _ _ _).next hb1;obtain⟨b1,b2,c0,c1,c2,c3⟩:=HX1.out;clear hb1);clear c0 c1 c2 c3 b1 b2
 go_loopw [5] (fun iv wr=>CX w (.slice p0 n0 q0) (.slice p1 n1 q1) (.slice p2 n2 q2) (.slice p3 n3 q3) wr/\∃j:Nat,j<=n1/\iv=.int .i64 (j:Int)/\Hid ((c.regs.take j).all (fun t=>AF t n0)=true)) (fun iv _=>n1-(intOf iv).toNat)
 case atStart=>exact⟨HX1.out,0,gI _,rfl,by show _=_;simp⟩
 case round=>
  obtain⟨hcx,j,hj,rfl,hall⟩:=hrel;have HCX:Hid (CX w (.slice p0 n0 q0) (.slice p1 n1 q1) (.slice p2 n2 q2) (.slice p3 n3 q3) wr):=hcx;obtain⟨b1,b2,c0,c1,c2,c3⟩:=hcx;clear HX1;by_cases hlt:j<n1
  .have hll:j<c.regs.length:=by rw[HN1.out];exact hlt
   obtain⟨b,o,rfl,hx⟩:=HREGS.at hll;have KN:=HMT.out c.regs[j];have NX:Hid (AF c.regs[j] n0=true->(c.regs.take (j+1)).all (fun t=>AF t n0)=true):=fun h=>No _ hll hall.out h;have NB:Hid (AF c.regs[j] n0=false->(160,-1)=(RA,RB)):=fun h=>by
    have h5:Ax c=false:=by unfold Ax;rw[HN0.out];exact QQ _ hll h
    have h6:=HRES.out;rw[h5,Bool.false_and,if_neg dE]at h6;exact h6
   obtain⟨⟨K,P⟩,hT⟩:∃T:Ty,c.regs[j]=T:=⟨_,rfl⟩
   rw[hT]at hx KN NX NB;have y0:wr.cell? ⟨b,o+j*2,none⟩=some (.int .i64 K):=kc b1 (hx.at 0 rfl);have y1:wr.cell? ⟨b,o+j*2+1,none⟩=some (.int .i64 P):=kc b1 (hx.at 1 rfl);obtain⟨X,hX⟩:=gA (AF ⟨K,P⟩ n0)
   rw[hX]at NX NB;simp only[hX]at KN;have HK:Hid (∀v,Calls prog 34 #[.agg #[.int .i64 K,.int .i64 P],.slice p0 n0 q0] v fun e w'=>e=.returned (.bool X)/\Below v.heap.size v w'):=KN;have i1:(0:Int)<=(j:Int):=oM;have i2:(j:Int)<(n1:Int):=oM;clear KN hT hX hx hall;cases X
   .go_wp2;refine rG (fun v=>v.cell? ⟨w.heap.size,1,none⟩=some (.slice (some ⟨b,o,none⟩) n1 q1)/\v.cell? ⟨w.heap.size,0,none⟩=some (.slice p0 n0 q0)/\v.cell? ⟨b,o+j*2,none⟩=some (.int .i64 K)/\v.cell? ⟨b,o+j*2+1,none⟩=some (.int .i64 P)) fun hJ=>?_;refine Tf 0 1 2 3 4 5 ?_;refine Bo 6 ?_;clear hJ;refine Aw 7 fun K hK=>?_;go_simp;(go_at_call 34;(with_reducible refine(HK.out _).mono ?_);rintro e w2 ⟨rfl,hb2⟩;have HB2:Hid (Below wr.heap.size wr w2):=bel (A9 _) hb2;clear hb2;obtain⟨-,-,c0,c1,c2,c3⟩:=HCX.out.next HB2.out;have x0:=kc HB2.out y0;have x1:=kc HB2.out y1);exact Zel
   .go_wp2;refine rG (fun v=>v.cell? ⟨w.heap.size,1,none⟩=some (.slice (some ⟨b,o,none⟩) n1 q1)/\v.cell? ⟨w.heap.size,0,none⟩=some (.slice p0 n0 q0)/\v.cell? ⟨b,o+j*2,none⟩=some (.int .i64 K)/\v.cell? ⟨b,o+j*2+1,none⟩=some (.int .i64 P)) fun hJ=>?_;refine Tf 0 1 2 3 4 5 ?_;refine Bo 6 ?_;clear hJ;refine Aw 7 fun K hK=>?_;go_simp;(go_at_call 34;(with_reducible refine(HK.out _).mono ?_);rintro e w2 ⟨rfl,hb2⟩;have HB2:Hid (Below wr.heap.size wr w2):=bel (A9 _) hb2;clear hb2;obtain⟨-,-,c0,c1,c2,c3⟩:=HCX.out.next HB2.out;have x0:=kc HB2.out y0;have x1:=kc HB2.out y1);exact Zdy
  have hjn:j=n1:=oM;have HT:Hid (Ax c=true):=by
   show _=_;have h5:=hall.out;rw[hjn,<-HN1.out,List.take_length]at h5;unfold Ax;rw[HN0.out];exact h5
  have e1:¬ (j:Int)<(n1:Int):=oM;clear hall hlt;go_wp2;clear e1 c0 c1 c2 c3 b1 b2
  go_loopw [6] (fun iv wr=>CX w (.slice p0 n0 q0) (.slice p1 n1 q1) (.slice p2 n2 q2) (.slice p3 n3 q3) wr/\∃j:Nat,j<=n2/\iv=.int .i64 (j:Int)/\Hid ((c.slots.take j).all (fun s=>Be s n0)=true)) (fun iv _=>n2-(intOf iv).toNat)
  case atStart=>exact⟨HCX.out,0,gI _,rfl,by show _=_;simp⟩
  case round=>
   obtain⟨hcx,j,hj,rfl,hall⟩:=hrel;have HCX:Hid (CX w (.slice p0 n0 q0) (.slice p1 n1 q1) (.slice p2 n2 q2) (.slice p3 n3 q3) wr):=hcx;obtain⟨b1,b2,c0,c1,c2,c3⟩:=hcx;by_cases hlt:j<n2
   .have hll:j<c.slots.length:=by rw[HN2.out];exact hlt
    obtain⟨b,o,rfl,hx⟩:=HSLOTS.at hll;have KN:=HMS.out c.slots[j] (gD hll);have NX:Hid (Be c.slots[j] n0=true->(c.slots.take (j+1)).all (fun s=>Be s n0)=true):=fun h=>No _ hll hall.out h;have NB:Hid (Be c.slots[j] n0=false->(160,-1)=(RA,RB)):=fun h=>by
     have h5:BI c=false:=by unfold BI;rw[HN0.out];exact QQ _ hll h
     have h6:=HRES.out;rw[h5,Bool.and_false,if_neg dE]at h6;exact h6
    obtain⟨⟨⟨K,P⟩,kp,sb,si⟩,hT⟩:∃T:Sl,c.slots[j]=T:=⟨_,rfl⟩
    rw[hT]at hx KN NX NB;have y0:wr.cell? ⟨b,o+j*5,none⟩=some (.int .i64 K):=kc b1 (hx.at 0 rfl);have y1:wr.cell? ⟨b,o+j*5+1,none⟩=some (.int .i64 P):=kc b1 (hx.at 1 rfl);have y2:wr.cell? ⟨b,o+j*5+2,none⟩=some (.bool kp):=kc b1 (hx.at 2 rfl);have y3:wr.cell? ⟨b,o+j*5+3,none⟩=some (.int .u32 sb):=kc b1 (hx.at 3 rfl);have y4:wr.cell? ⟨b,o+j*5+4,none⟩=some (.int .i64 si):=kc b1 (hx.at 4 rfl);obtain⟨X,hX⟩:=gA (Be ⟨⟨K,P⟩,kp,sb,si⟩ n0)
    rw[hX]at NX NB;simp only[hX]at KN;have HK:Hid (∀v,Calls prog 35 #[.agg #[.int .i64 K,.int .i64 P,.bool kp,.int .u32 sb,.int .i64 si],.slice p0 n0 q0] v fun e w'=>e=.returned (.bool X)/\Below v.heap.size v w'):=KN;have i1:(0:Int)<=(j:Int):=oM;have i2:(j:Int)<(n2:Int):=oM;clear KN hT hX hx hall;cases X
    .go_wp2;refine rG (fun v=>v.cell? ⟨w.heap.size,2,none⟩=some (.slice (some ⟨b,o,none⟩) n2 q2)/\v.cell? ⟨w.heap.size,0,none⟩=some (.slice p0 n0 q0)/\v.cell? ⟨b,o+j*5,none⟩=some (.int .i64 K)/\v.cell? ⟨b,o+j*5+1,none⟩=some (.int .i64 P)/\v.cell? ⟨b,o+j*5+2,none⟩=some (.bool kp)/\v.cell? ⟨b,o+j*5+3,none⟩=some (.int .u32 sb)/\v.cell? ⟨b,o+j*5+4,none⟩=some (.int .i64 si)) fun hJ=>?_;refine Tf 0 1 2 3 4 5 ?_;refine Bo 6 ?_;clear hJ;refine Aw 7 fun K hK=>?_;go_simp;(go_at_call 35;(with_reducible refine(HK.out _).mono ?_);rintro e w2 ⟨rfl,hb2⟩;have HB2:Hid (Below wr.heap.size wr w2):=bel (A9 _) hb2;clear hb2;obtain⟨-,-,c0,c1,c2,c3⟩:=HCX.out.next HB2.out;have x0:=kc HB2.out y0;have x1:=kc HB2.out y1;have x2:=kc HB2.out y2;have x3:=kc HB2.out y3;have x4:=kc HB2.out y4);exact Zel
    .go_wp2;refine rG (fun v=>v.cell? ⟨w.heap.size,2,none⟩=some (.slice (some ⟨b,o,none⟩) n2 q2)/\v.cell? ⟨w.heap.size,0,none⟩=some (.slice p0 n0 q0)/\v.cell? ⟨b,o+j*5,none⟩=some (.int .i64 K)/\v.cell? ⟨b,o+j*5+1,none⟩=some (.int .i64 P)/\v.cell? ⟨b,o+j*5+2,none⟩=some (.bool kp)/\v.cell? ⟨b,o+j*5+3,none⟩=some (.int .u32 sb)/\v.cell? ⟨b,o+j*5+4,none⟩=some (.int .i64 si)) fun hJ=>?_;refine Tf 0 1 2 3 4 5 ?_;refine Bo 6 ?_;clear hJ;refine Aw 7 fun K hK=>?_;go_simp;(go_at_call 35;(with_reducible refine(HK.out _).mono ?_);rintro e w2 ⟨rfl,hb2⟩;have HB2:Hid (Below wr.heap.size wr w2):=bel (A9 _) hb2;clear hb2;obtain⟨-,-,c0,c1,c2,c3⟩:=HCX.out.next HB2.out;have x0:=kc HB2.out y0;have x1:=kc HB2.out y1;have x2:=kc HB2.out y2;have x3:=kc HB2.out y3;have x4:=kc HB2.out y4);exact Zdy
   have hjn2:j=n2:=oM;have HGO0:Hid (L6 c ⟨[],[]⟩ 0 c.list=(RA,RB)):=by
    show _=_;have h5:=hall.out;rw[hjn2,<-HN2.out,List.take_length]at h5;have h6:BI c=true:=by unfold BI;rw[HN0.out];exact h5
    have h7:=HRES.out;rw[HT.out,h6,if_pos rF]at h7;exact h7
   have e1:¬ (j:Int)<(n2:Int):=oM;clear hall hlt;go_wp2;clear e1 c0 c1 c2 c3 b1 b2
   go_loopw [7,8] (fun sv iv wr=>CX w (.slice p0 n0 q0) (.slice p1 n1 q1) (.slice p2 n2 q2) (.slice p3 n3 q3) wr/\∃ (k:Nat) (p:Option Addr) (q:Nat),k<=n1/\iv=.int .i64 (k:Int)/\sv=.slice p k q/\wr.ownsRow (w.heap.size+1) 4 1 (.slice p k q) k (Di k [])) (fun _ iv _=>n1-(intOf iv).toNat)
   case atStart=>exact⟨HCX.out,0,none,0,gI _,rfl,rfl,by rw[show Di 0 []=[] from rfl];exact World.ownsRow_nil _ _ _ 1⟩
   case round=>
    obtain⟨hcx,k,p,q,hkn,rfl,rfl,how⟩:=hrel;have HCX:Hid (CX w (.slice p0 n0 q0) (.slice p1 n1 q1) (.slice p2 n2 q2) (.slice p3 n3 q3) wr):=hcx;obtain⟨b1,b2,c0,c1,c2,c3⟩:=hcx;by_cases hkl:k<n1
    .obtain⟨g,c',w8,hap,hb8,ho8⟩:=UU how oM oM;have HAP:Hid ((Builtin.append_ #[36,36] 36 #[.slice p k q,.slice (some ⟨wr.heap.size,0,none⟩) 1 1]).run prog (wr.alloc (.cells #[.bool false] 4))=.ok (.slice (some ⟨g,0,none⟩) (k+1) c') w8):=hap;have HY8:Hid (CX w (.slice p0 n0 q0) (.slice p1 n1 q1) (.slice p2 n2 q2) (.slice p3 n3 q3) w8/\w8.ownsRow (w.heap.size+1) 4 1 (.slice (some ⟨g,0,none⟩) (k+1) c') (k+1) (Di (k+1) [])):=by
      refine⟨HCX.on hb8,?_⟩;rw[OE,List.replicate_succ',<-OE];exact ho8
     have i2:(k:Int)<(n1:Int):=oM;have wi:IntKind.i64.wrap ((k:Int)+1)=((k+1:Nat):Int):=by rw[IntKind.wrap_i64];omega
     clear hap hb8 ho8 how;go_wp2_with(at_builtin;refine AO rF _ _ _ rF _ _ _ rF rF HAP.out ?_);go_roundw
     case rel=>exact⟨HY8.1,k+1,_,_,oM,gN,rfl,HY8.2⟩
     case measure=>simp[intOf];omega
    have hkn1:k=n1:=oM;subst hkn1;have HSK0:Hid (SK (w.heap.size+1) k wr (.slice p k q) (.slice none 0 0) ⟨[],[]⟩ []):=SK.start wr _ b2 how;have e1:¬ (k:Int)<(k:Int):=oM;clear how hkl;go_wp2;clear e1 c0 c1 c2 c3 b1 b2
    go_loopw [7,9,10] (fun sv ov iv wr=>CX w (.slice p0 n0 q0) (.slice p1 k q1) (.slice p2 n2 q2) (.slice p3 n3 q3) wr/\∃ (j:Nat) (s:Wk) (us:List Value),j<=n3/\iv=.int .i64 (j:Int)/\Hid (SK (w.heap.size+1) k wr sv ov s us)/\Hid (E5 k s)/\Hid (E6 s)/\Hid (L6 c s j (c.list.drop j)=(RA,RB))) (fun _ _ iv _=>n3-(intOf iv).toNat)
    case atStart=>exact⟨HCX.out,0,⟨[],[]⟩,[],gI _,rfl,HSK0.out,E5.start k,E6.start,by show _=_;rw[List.drop_zero];exact HGO0.out⟩
    case round=>
     obtain⟨hcx,j,s,us,hj,rfl,hsk,hok,hpo,hgo⟩:=hrel;obtain⟨po,qo,rfl⟩:=AZ hsk.opn;obtain⟨ps,qs,rfl⟩:=AZ hsk.set;have HCX:Hid (CX w (.slice p0 n0 q0) (.slice p1 k q1) (.slice p2 n2 q2) (.slice p3 n3 q3) wr):=hcx;obtain⟨b1,b2,f0,f1,f2,f3⟩:=hcx;have hnest:=hok.nest;clear HSK0;by_cases hlt:j<n3
     .have hll:j<c.list.length:=by rw[HN3.out];exact hlt
      obtain⟨b,o,rfl,hx⟩:=HLIST.at hll;have hgo':=hgo.out;rw[List.drop_eq_getElem_cons hll]at hgo';have hgi:L6 c s j (c.list[j]::c.list.drop (j+1))=if AG c s c.list[j]then L6 c (Aj s c.list[j]) (j+1) (c.list.drop (j+1))else(160,(j:Int)):=rfl;rw[hgi]at hgo';have hib:=HCO.ibits c.list[j] (gD hll);have hos:AG c s c.list[j]=true->E5 k (Aj s c.list[j])/\E6 (Aj s c.list[j]):=fun ht=>by
       have hq:E5 c.regs.length s:=by rw[HN1.out];exact hok.out
       have h5:=E5.step hq ht;rw[HN1.out]at h5;exact⟨h5,hpo.step ht⟩
      have htk:AG c s c.list[j]=true->AS c c.list[j] (A4 c.list[j].op)=true/\Az c s c.list[j] (A4 c.list[j].op)=true:=fun ht=>by
       obtain⟨-,h5,h6,-⟩:=Ao ht;exact⟨h5,h6⟩
      obtain⟨⟨op,D,A,Q,E,nn,bt⟩,hxx⟩:∃x:Ad,c.list[j]=x:=⟨_,rfl⟩
      rw[hxx]at hx hgo' hos htk hib;have KS:=Oy _ _ _ _ c HCO.out HT.out (⟨op,D,A,Q,E,nn,bt⟩:Ad) hib.1 hib.2 (w.heap.size+1) s (.slice ps k qs) (.slice po s.opens.length qo) us (by rw[HN1.out];exact h1) (by rw[HN1.out];exact hok.out) hpo.out (wr.alloc (.cells #[.int .i64 op,.int .i64 D,.int .i64 A,.int .i64 Q,.int .i64 E,.int .i64 nn,.int .u32 bt] 40)) ((HCV.below b1).below (A0 _ _)) (by rw[HN1.out];exact hsk.below (A0 _ _));have x0:=kc b1 (hx.at 0 rfl);have x1:=kc b1 (hx.at 1 rfl);have x2:=kc b1 (hx.at 2 rfl);have x3:=kc b1 (hx.at 3 rfl);have x4:=kc b1 (hx.at 4 rfl);have x5:=kc b1 (hx.at 5 rfl);have x6:=kc b1 (hx.at 6 rfl);rw[Nat.add_zero]at x0;obtain⟨-,-,f0',f1',f2',f3'⟩:=HCX.next (A0 wr (.cells #[.int .i64 op,.int .i64 D,.int .i64 A,.int .i64 Q,.int .i64 E,.int .i64 nn,.int .u32 bt] 40));have HIX:Hid (∀v,Below (wr.alloc (.cells #[.int .i64 op,.int .i64 D,.int .i64 A,.int .i64 Q,.int .i64 E,.int .i64 nn,.int .u32 bt] 40)).heap.size (wr.alloc (.cells #[.int .i64 op,.int .i64 D,.int .i64 A,.int .i64 Q,.int .i64 E,.int .i64 nn,.int .u32 bt] 40)) v->v.cell? ⟨wr.heap.size,0,none⟩=some (.int .i64 op)/\v.cell? ⟨wr.heap.size,1,none⟩=some (.int .i64 D)/\v.cell? ⟨wr.heap.size,2,none⟩=some (.int .i64 A)/\v.cell? ⟨wr.heap.size,3,none⟩=some (.int .i64 Q)/\v.cell? ⟨wr.heap.size,4,none⟩=some (.int .i64 E)/\v.cell? ⟨wr.heap.size,5,none⟩=some (.int .i64 nn)/\v.cell? ⟨wr.heap.size,6,none⟩=some (.int .u32 bt)):=fun v hb=>⟨kc hb sG,kc hb sG,kc hb sG,kc hb sG,kc hb sG,kc hb sG,kc hb sG⟩
      obtain⟨T,hT⟩:=gA (AG c s (⟨op,D,A,Q,E,nn,bt⟩:Ad))
      rw[hT]at hgo' hos htk KS;have HST:Hid (Calls prog 36 #[.agg #[.slice p0 n0 q0,.slice p1 k q1,.slice p2 n2 q2,.slice (some ⟨b,o,none⟩) n3 q3],.agg #[.int .i64 op,.int .i64 D,.int .i64 A,.int .i64 Q,.int .i64 E,.int .i64 nn,.int .u32 bt],.slice ps k qs,.slice po s.opens.length qo] (wr.alloc (.cells #[.int .i64 op,.int .i64 D,.int .i64 A,.int .i64 Q,.int .i64 E,.int .i64 nn,.int .u32 bt] 40)) fun e w'=>e=.returned (.bool T)/\Below (wr.alloc (.cells #[.int .i64 op,.int .i64 D,.int .i64 A,.int .i64 Q,.int .i64 E,.int .i64 nn,.int .u32 bt] 40)).heap.size (wr.alloc (.cells #[.int .i64 op,.int .i64 D,.int .i64 A,.int .i64 Q,.int .i64 E,.int .i64 nn,.int .u32 bt] 40)) w'):=KS;have HGO:Hid ((if T=true then L6 c (Aj s (⟨op,D,A,Q,E,nn,bt⟩:Ad)) (j+1) (c.list.drop (j+1))else(160,(j:Int)))=(RA,RB)):=hgo';have HOS:Hid (T=true->E5 k (Aj s (⟨op,D,A,Q,E,nn,bt⟩:Ad))/\E6 (Aj s (⟨op,D,A,Q,E,nn,bt⟩:Ad))):=hos;have HTK:Hid (T=true->AS c (⟨op,D,A,Q,E,nn,bt⟩:Ad) (A4 op)=true/\Az c s (⟨op,D,A,Q,E,nn,bt⟩:Ad) (A4 op)=true):=htk;have k1:(0:Int)<=(j:Int):=oM;have k2:(j:Int)<(n3:Int):=oM;have wj:IntKind.i64.wrap ((j:Int)+1)=((j+1:Nat):Int):=by rw[IntKind.wrap_i64];omega
      clear KS hgo hgo' hgi hos htk hT hx hxx hib hll;cases T
      .have HQ:Hid ((160,(j:Int))=(RA,RB)):=by show _=_;have:=HGO.out;rw[if_neg dE]at this;exact this
       go_wp2_with(go_at_call 36;(with_reducible refine HST.out.mono ?_);rintro e w5 ⟨rfl,hb5⟩;have HB5:Hid (Below (wr.alloc (.cells #[.int .i64 op,.int .i64 D,.int .i64 A,.int .i64 Q,.int .i64 E,.int .i64 nn,.int .u32 bt] 40)).heap.size (wr.alloc (.cells #[.int .i64 op,.int .i64 D,.int .i64 A,.int .i64 Q,.int .i64 E,.int .i64 nn,.int .u32 bt] 40)) w5):=hb5;clear hb5 f0 f1 f2 f3;obtain⟨-,-,f0,f1,f2,f3⟩:=(HCX.out.next (A0 _ _)).next HB5.out;obtain⟨i0,i1,i2,i3,i4,i5,i6⟩:=HIX.out w5 HB5.out)
       go_ret2
       exact⟨Hv HQ.out,bel (bel HCX.bel (A0 _ _)) HB5.out⟩
      .have HO1:Hid (E5 k (Aj s (⟨op,D,A,Q,E,nn,bt⟩:Ad))/\E6 (Aj s (⟨op,D,A,Q,E,nn,bt⟩:Ad))):=HOS.out rfl;have HG1:Hid (L6 c (Aj s (⟨op,D,A,Q,E,nn,bt⟩:Ad)) (j+1) (c.list.drop (j+1))=(RA,RB)):=by show _=_;have:=HGO.out;rw[if_pos rfl]at this;exact this
       have HTK1:Hid (AS c (⟨op,D,A,Q,E,nn,bt⟩:Ad) (A4 op)=true/\Az c s (⟨op,D,A,Q,E,nn,bt⟩:Ad) (A4 op)=true):=HTK.out rfl;have HOB:Hid (∀g,(Value.slice po s.opens.length qo).ownBlock=some g->g<wr.heap.size):=fun g e=>(hsk.opn.lt g e).2;clear HGO HOS HTK;by_cases hop:op=34\/op=36
       .have hn64:s.opens.length<64:=GW (i:=(⟨op,D,A,Q,E,nn,bt⟩:Ad)) HTK1.2 hop;have HOP:Hid (op=34\/op=36):=hop;have HCP:Hid (∀v,Below wr.heap.size wr v->Calls prog 37 #[.slice ps k qs] v fun e w'=>∃u,e=.returned u/\w'.ownsRow v.heap.size 4 1 u k (Di k s.set)/\Below v.heap.size v w'):=fun v hb=>J0 _ h1 v (Ak hsk.set hb);have hq:((op==34)=true)\/((op==34)=false/\(op==36)=true):=by
         rcases hop with e|e
         .exact .inl (by simpa using e)
         .exact .inr ⟨by rw[e];decide,by simpa using e⟩
        clear hop;rcases hq with r1|⟨r1,r2⟩
        all_goals
         go_wp2_with(go_at_call 36;(with_reducible refine HST.out.mono ?_);rintro e w5 ⟨rfl,hb5⟩;have HB5:Hid (Below (wr.alloc (.cells #[.int .i64 op,.int .i64 D,.int .i64 A,.int .i64 Q,.int .i64 E,.int .i64 nn,.int .u32 bt] 40)).heap.size (wr.alloc (.cells #[.int .i64 op,.int .i64 D,.int .i64 A,.int .i64 Q,.int .i64 E,.int .i64 nn,.int .u32 bt] 40)) w5):=hb5;have HBR:Hid (Below wr.heap.size wr w5):=bel (A0 _ _) hb5;clear hb5 f0 f1 f2 f3;obtain⟨-,-,f0,f1,f2,f3⟩:=(HCX.out.next (A0 _ _)).next HB5.out;obtain⟨i0,i1,i2,i3,i4,i5,i6⟩:=HIX.out w5 HB5.out);refine rG (fun v=>v.cell? ⟨wr.heap.size,0,none⟩=some (.int .i64 op)/\v.cell? ⟨wr.heap.size,5,none⟩=some (.int .i64 nn)) fun hJ=>?_;refine Tf 0 1 2 3 4 5 ?_;clear hJ;refine Aw 6 fun K hK=>?_;go_simp;(go_at_call 37;(with_reducible refine(HCP.out _ (bel HBR.out (A9 _))).mono ?_);rintro e w6 ⟨u,rfl,hu,hb6⟩;obtain⟨pu,qu,rfl⟩:=AZ hu;have hb66:Below w5.heap.size w5 w6:=bel (A9 _) hb6;obtain⟨g',c',w7,hrun,hb7,hsk7,hoth⟩:=SK.push (i:=(⟨op,D,A,Q,E,nn,bt⟩:Ad)) (hsk.out.below HBR.out) hb66 hu HOP.out hn64 98;dsimp only at hrun;have HRUN:Hid _:=hrun;have HX7:Hid (CX w (.slice p0 n0 q0) (.slice p1 k q1) (.slice p2 n2 q2) (.slice (some ⟨b,o,none⟩) n3 q3) w7):=((HCX.out.next (A0 _ _)).next HB5.out).on hb7;have HS7:Hid (SK (w.heap.size+1) k w7 (.slice ps k qs) (.slice (some ⟨g',0,none⟩) (s.opens.length+1) c') (Aj s (⟨op,D,A,Q,E,nn,bt⟩:Ad)) (us++[.slice pu k qu])):=hsk7;have j0:=kc hb66 i0;have j5:=kc hb66 i5;have hwl:wr.heap.size<w6.heap.size:=A8 j0;have hne:(Value.slice po s.opens.length qo).ownBlock≠some wr.heap.size:=(fun e=>Nat.lt_irrefl _ (HOB.out _ e));have m0:w7.cell? ⟨wr.heap.size,0,none⟩=some (.int .i64 op):=(gC (hoth _ hwl hne)).trans j0;have m5:w7.cell? ⟨wr.heap.size,5,none⟩=some (.int .i64 nn):=(gC (hoth _ hwl hne)).trans j5;have a0:∀x,(w6.alloc x).cell? ⟨wr.heap.size,0,none⟩=some (.int .i64 op):=(fun x=>kc (A0 _ _) j0);have a5:∀x,(w6.alloc x).cell? ⟨wr.heap.size,5,none⟩=some (.int .i64 nn):=(fun x=>kc (A0 _ _) j5);clear hu hb6 hb66 hrun hb7 hsk7 hoth hne i0 i5);try(go_wp2_with fail)
         refine Aq hK fun hJ=>?_;clear hK K;refine Bo 7 ?_;clear hJ;refine Aw 8 fun K hK=>?_;go_simp;refine Aq hK fun hJ=>?_;clear hK K;clear hJ;refine Aw 9 fun K hK=>?_;refine Fq _ _ _ rF _ _ _ rF rF HRUN.out ?_ _ rF;refine Aq hK fun hJ=>?_;clear hK K;refine Bo 10 ?_;refine wpAnyH_done kR ?_ _;go_wp2;go_roundw
         case rel=>exact⟨HX7.out,j+1,Aj s (⟨op,D,A,Q,E,nn,bt⟩:Ad),us++[Value.slice pu k qu],oM,gN,HS7,HO1.1,HO1.2,HG1.out⟩
         case measure=>simp[intOf];omega
       have q34:(op==34)=false:=by have:op≠34:=fun e=>hop (.inl e);simpa using this
       have q36:(op==36)=false:=by have:op≠36:=fun e=>hop (.inr e);simpa using this
       have HNO:Hid (op≠34/\op≠36):=⟨fun e=>hop (.inl e),fun e=>hop (.inr e)⟩
       clear hop;by_cases h35:op=35
       .have hmay:=HTK1.2;unfold Az at hmay;rw[if_neg (fun e=>e.elim HNO.1 HNO.2),if_pos h35]at hmay;simp only[Bool.and_eq_true,Bool.not_eq_true']at hmay;have hn0:0<s.opens.length:=by
         rcases Nat.eq_zero_or_pos s.opens.length with e|e
         .have:=List.length_eq_zero_iff.1 e;rw[this]at hmay;exact absurd hmay.1 dE
         .exact e
        have HLP:Hid (AD s=false):=hmay.2;obtain⟨g,cap,eo,-⟩:=hsk.opn.form hn0;simp only[Value.slice.injEq]at eo;obtain⟨rfl,-,-⟩:=eo;obtain⟨X,u,hX,hu,-,-,z2⟩:=hsk.last hn0;obtain⟨pu,qu,rfl⟩:=AZ hu;have HXO:Hid ((Lh s)[s.opens.length-1]? =some ⟨if AD s then 36 else 34,Co s,X⟩):=hX;have HCP:Hid (∀v,Below wr.heap.size wr v->Calls prog 37 #[.slice pu k qu] v fun e w'=>∃u,e=.returned u/\w'.ownsRow v.heap.size 4 1 u k (Di k X)/\Below v.heap.size v w'):=fun v hb=>J0 _ h1 v (Ak hu hb);have s1:=fun w=>F3 und_O XN (some ⟨g,0,none⟩) s.opens.length qo (s.opens.length-1) (by have:=MT hsk.opn;omega) w;have HN0':Hid (0<s.opens.length):=hn0;obtain⟨N,hN⟩:=gA (s.opens.length)
        obtain⟨m,hm⟩:=gA (N-1)
        have HNN:Hid (s.opens.length=N):=hN;have HMM:Hid (N-1=m):=hm;rw[hN]at z2 s1 hn0 hnest;rw[hm]at z2 s1;rw[hN]at HST;rw[hN];have hw:IntKind.i64.wrap ((N:Int)-1)=(m:Int):=by rw[IntKind.wrap_i64];omega
        have r1:(0:Int)<=(m:Int):=oM;have r2:(m:Int)<(N:Int):=oM;have q35:(op==35)=true:=by simpa using h35
        have HOP:Hid (op=35\/op=37):=.inl h35;clear hmay hX hu h35 hN hm;go_wp2_with(first
         |(go_at_call 36;(with_reducible refine HST.out.mono ?_);rintro e w5 ⟨rfl,hb5⟩;have HB5:Hid (Below (wr.alloc (.cells #[.int .i64 op,.int .i64 D,.int .i64 A,.int .i64 Q,.int .i64 E,.int .i64 nn,.int .u32 bt] 40)).heap.size (wr.alloc (.cells #[.int .i64 op,.int .i64 D,.int .i64 A,.int .i64 Q,.int .i64 E,.int .i64 nn,.int .u32 bt] 40)) w5):=hb5;have HBR:Hid (Below wr.heap.size wr w5):=bel (A0 _ _) hb5;clear hb5 f0 f1 f2 f3;obtain⟨-,-,f0,f1,f2,f3⟩:=(HCX.out.next (A0 _ _)).next HB5.out;have z5:=kc HBR.out z2;obtain⟨i0,i1,i2,i3,i4,i5,i6⟩:=HIX.out w5 HB5.out)
         |(go_at_call 37;(with_reducible refine(HCP.out _ HBR.out).mono ?_);rintro e w6 ⟨u,rfl,hu,hb6⟩;have HU6:Hid (w6.ownsRow w5.heap.size 4 1 u k (Di k X)):=hu;have HB6:Hid (Below w5.heap.size w5 w6):=hb6;clear hu hb6))
        go_roundw
        case rel=>
         refine⟨((HCX.next (A0 _ _)).next HB5.out).next HB6.out,j+1,Aj s (⟨op,D,A,Q,E,nn,bt⟩:Ad),us.take (s.opens.length-1),oM,gN,?_,HO1.1,HO1.2,HG1.out⟩;have e1:Aj s (⟨op,D,A,Q,E,nn,bt⟩:Ad)=AQ s:=Ng HOP.out;have h9:=SK.back (hsk.below HBR.out) hok.out HN0'.out HLP.out HB6.out HXO.out HU6.out;rw[e1,<-HMM.out,<-HNN.out];exact h9
        case measure=>simp[intOf];omega
       have q35:(op==35)=false:=by simpa using h35
       by_cases h37:op=37
       .have hmay:=HTK1.2;unfold Az at hmay;rw[if_neg (fun e=>e.elim HNO.1 HNO.2),if_neg h35,if_pos h37]at hmay;have hn0:0<s.opens.length:=by
         rcases Nat.eq_zero_or_pos s.opens.length with e|e
         .have:=List.length_eq_zero_iff.1 e;unfold AD at hmay;rw[this]at hmay;exact absurd hmay dE
         .exact e
        have HLP:Hid (AD s=true):=hmay;have s1:=fun w=>F3 und_O XN po s.opens.length qo (s.opens.length-1) (by have:=MT hsk.opn;omega) w;have HN0':Hid (0<s.opens.length):=hn0;obtain⟨N,hN⟩:=gA (s.opens.length)
        obtain⟨m,hm⟩:=gA (N-1)
        have HNN:Hid (s.opens.length=N):=hN;have HMM:Hid (N-1=m):=hm;rw[hN]at s1 hn0 hnest;rw[hm]at s1;rw[hN]at HST;rw[hN];have hw:IntKind.i64.wrap ((N:Int)-1)=(m:Int):=by rw[IntKind.wrap_i64];omega
        have r1:(0:Int)<=(m:Int):=oM;have r2:(m:Int)<(N:Int):=oM;have q37:(op==37)=true:=by simpa using h37
        have HOP:Hid (op=35\/op=37):=.inr h37;clear hmay h35 h37 hN hm;go_wp2_with(go_at_call 36;(with_reducible refine HST.out.mono ?_);rintro e w5 ⟨rfl,hb5⟩;have HB5:Hid (Below (wr.alloc (.cells #[.int .i64 op,.int .i64 D,.int .i64 A,.int .i64 Q,.int .i64 E,.int .i64 nn,.int .u32 bt] 40)).heap.size (wr.alloc (.cells #[.int .i64 op,.int .i64 D,.int .i64 A,.int .i64 Q,.int .i64 E,.int .i64 nn,.int .u32 bt] 40)) w5):=hb5;have HBR:Hid (Below wr.heap.size wr w5):=bel (A0 _ _) hb5;clear hb5 f0 f1 f2 f3;obtain⟨-,-,f0,f1,f2,f3⟩:=(HCX.out.next (A0 _ _)).next HB5.out;obtain⟨i0,i1,i2,i3,i4,i5,i6⟩:=HIX.out w5 HB5.out);go_roundw
        case rel=>
         refine⟨(HCX.next (A0 _ _)).next HB5.out,j+1,Aj s (⟨op,D,A,Q,E,nn,bt⟩:Ad),us.take (s.opens.length-1),oM,gN,?_,HO1.1,HO1.2,HG1.out⟩;have e1:Aj s (⟨op,D,A,Q,E,nn,bt⟩:Ad)=AQ s:=Ng HOP.out;have h9:=SK.pop (hsk.below HBR.out) hok.out HN0'.out HLP.out;rw[e1,<-HMM.out,<-HNN.out];exact h9
        case measure=>simp[intOf];omega
       have q37:(op==37)=false:=by simpa using h37
       have HNP:Hid (op≠34/\op≠35/\op≠36/\op≠37):=⟨HNO.1,h35,HNO.2,h37⟩
       have KE:=Ma (⟨op,D,A,Q,E,nn,bt⟩:Ad);unfold OF at KE;simp only at KE;have hdr:(A4 op).d≠0->0<=D/\D<(k:Int):=fun hd=>by
        have:=Ag (Cw HTK1.1) hd;rw[HN1.out]at this;exact this
       clear h35 h37;by_cases hsd:(A4 op).d=0
       .have e9:((A4 op).d != 0)=false:=by simp[hsd]
        rw[e9]at KE;have HKE:Hid (∀v,Calls prog 22 #[.agg #[.int .i64 op,.int .i64 D,.int .i64 A,.int .i64 Q,.int .i64 E,.int .i64 nn,.int .u32 bt]] v fun e w'=>e=.returned (.bool false)/\Below v.heap.size v w'):=KE;have HSD:Hid ((A4 op).d=0):=hsd;clear KE e9 hdr hsd;go_wp2_with(first
         |(go_at_call 36;(with_reducible refine HST.out.mono ?_);rintro e w5 ⟨rfl,hb5⟩;have HB5:Hid (Below (wr.alloc (.cells #[.int .i64 op,.int .i64 D,.int .i64 A,.int .i64 Q,.int .i64 E,.int .i64 nn,.int .u32 bt] 40)).heap.size (wr.alloc (.cells #[.int .i64 op,.int .i64 D,.int .i64 A,.int .i64 Q,.int .i64 E,.int .i64 nn,.int .u32 bt] 40)) w5):=hb5;have HBR:Hid (Below wr.heap.size wr w5):=bel (A0 _ _) hb5;clear hb5 f0 f1 f2 f3;obtain⟨-,-,f0,f1,f2,f3⟩:=(HCX.out.next (A0 _ _)).next HB5.out;obtain⟨i0,i1,i2,i3,i4,i5,i6⟩:=HIX.out w5 HB5.out)
         |(go_at_call 22;(with_reducible refine(HKE.out _).mono ?_);rintro e w6 ⟨rfl,hb6⟩;have HB6:Hid (Below w5.heap.size w5 w6):=hb6;clear hb6))
        go_roundw
        case rel=>exact⟨((HCX.next (A0 _ _)).next HB5.out).next HB6.out,j+1,Aj s (⟨op,D,A,Q,E,nn,bt⟩:Ad),us,oM,gN,SK.keep ((hsk.below HBR.out).below HB6.out) hok.out HNP.1 HNP.2.1 HNP.2.2.1 HNP.2.2.2 HSD.out,HO1.1,HO1.2,HG1.out⟩
        case measure=>simp[intOf];omega
       .have e9:((A4 op).d != 0)=true:=by simp[hsd]
        rw[e9]at KE;have HKE:Hid (∀v,Calls prog 22 #[.agg #[.int .i64 op,.int .i64 D,.int .i64 A,.int .i64 Q,.int .i64 E,.int .i64 nn,.int .u32 bt]] v fun e w'=>e=.returned (.bool true)/\Below v.heap.size v w'):=KE;have HSD:Hid ((A4 op).d≠0):=hsd;obtain⟨d,rfl⟩:∃d:Nat,D=(d:Int):=⟨D.toNat,by have:=hdr hsd;omega⟩
        have hd2:=(hdr hsd).2;obtain⟨gs,cap,eo,hgs,-⟩:=hsk.set.form oM;simp only[Value.slice.injEq]at eo;obtain⟨rfl,-,-⟩:=eo;have d0:(0:Int)<=(d:Int):=oM;have HG9:Hid (w.heap.size+1<=gs):=(hsk.set.lt gs rfl).1;have HCE:Hid (∀v,Below wr.heap.size wr v->v.cell? ⟨gs,d,none⟩=some (.bool (decide (d∈s.set)))/\v.frozen? ⟨gs,d,none⟩=false):=fun v hb=>by
         have h9:=Ak hsk.set hb;exact⟨by rw[h9.cellAt d oM,Hz oM],h9.frozenAt d⟩
        clear KE e9 hdr hsd;go_wp2_with(first
         |(go_at_call 36;(with_reducible refine HST.out.mono ?_);rintro e w5 ⟨rfl,hb5⟩;have HB5:Hid (Below (wr.alloc (.cells #[.int .i64 op,.int .i64 (d:Int),.int .i64 A,.int .i64 Q,.int .i64 E,.int .i64 nn,.int .u32 bt] 40)).heap.size (wr.alloc (.cells #[.int .i64 op,.int .i64 (d:Int),.int .i64 A,.int .i64 Q,.int .i64 E,.int .i64 nn,.int .u32 bt] 40)) w5):=hb5;have HBR:Hid (Below wr.heap.size wr w5):=bel (A0 _ _) hb5;clear hb5 f0 f1 f2 f3;obtain⟨-,-,f0,f1,f2,f3⟩:=(HCX.out.next (A0 _ _)).next HB5.out;obtain⟨i0,i1,i2,i3,i4,i5,i6⟩:=HIX.out w5 HB5.out)
         |(go_at_call 22;(with_reducible refine(HKE.out _).mono ?_);rintro e w6 ⟨rfl,hb6⟩;have HB6:Hid (Below w5.heap.size w5 w6):=hb6;obtain⟨y8,y9⟩:=HCE.out w6 (bel HBR.out hb6);have i1:=kc hb6 i1;clear hb6))
        go_roundw
        case rel=>exact⟨(((HCX.next (A0 _ _)).next HB5.out).next HB6.out).on ((Below.refl _ _).setCell HG9.out _),j+1,Aj s ⟨op,(d:Int),A,Q,E,nn,bt⟩,us,oM,gN,SK.ins (i:=⟨op,(d:Int),A,Q,E,nn,bt⟩) ((hsk.below HBR.out).below HB6.out) hok.out HNP.1 HNP.2.1 HNP.2.2.1 HNP.2.2.2 HSD.out (by have:=hd2;show d<k;omega),HO1.1,HO1.2,HG1.out⟩
        case measure=>simp[intOf];omega
     .have hjn3:j=n3:=oM;have hgo':=hgo.out;rw[List.drop_of_length_le (by rw[HN3.out,hjn3];exact gF _)]at hgo';have hgi:L6 c s j []=if s.opens.isEmpty then(0,0)else(160,(j:Int)):=rfl;rw[hgi]at hgo';obtain⟨N,hN⟩:=gA (s.opens.length)
      have hE:s.opens.isEmpty=decide (N=0):=by
       rw[<-hN];cases s.opens with
       |nil=>rfl
       |cons a l=>simp
      rw[hE]at hgo';have HGO:Hid ((if decide (N=0)=true then((0:Int),(0:Int))else(160,(j:Int)))=(RA,RB)):=hgo';rw[hN]at hnest;rw[hN];have e1:¬ (j:Int)<(n3:Int):=oM;clear hgo hgo' hgi hE hN hlt;by_cases hz:N=0
      .have HQ:Hid ((0,0)=(RA,RB)):=by show _=_;have:=HGO.out;rw[if_pos (by simpa using hz)]at this;exact this
       subst hz;go_wp2
       go_ret2
       exact⟨Hv HQ.out,HCX.bel⟩
      .have HQ:Hid ((160,(j:Int))=(RA,RB)):=by show _=_;have:=HGO.out;rw[if_neg (by simpa using hz)]at this;exact this
       have hz':(0:Int)<(N:Int):=oM;have HJ:Hid ((j:Int)=(n3:Int)):=by show _=_;omega
       clear hz;go_wp2;refine rG (fun v=>v.cell? ⟨w.heap.size,3,none⟩=some (.slice p3 n3 q3)) fun hJ=>?_;refine Tc 0 1 2 ?_;refine Tb 3 4 ?_;refine wpAnyH_done kR ?_ _;go_wp2
       go_ret2
       refine⟨Hv ?_,E0 HCX.bel⟩;rw[<-HJ.out];exact HQ.out
theorem UV{α:Type}{f:α->List Value}{k bytes:Nat}{t e:TypeId}{z:Value}{i:TypeInfo}(hk:0<k)(hf:∀x,(f x).length=k)(h1:∀x,∀u∈f x,u.oneCell'=true)(ht:prog.underlying t=some (.slice e))(hi:prog.info? e=some i)(hz:i.zero=some z)(hsize:i.size=k)(hby:i.bytes=bytes)(hzs:z.cells.size=k)
 {l:List α} {p:Option Addr} {d:Nat} {w:World} (h:AV k f w (.slice p l.length d) l) (hl:l.length<=maxLen) (hb:l.length*bytes<=140737488355328) (ty:TypeId):
 ∃p' c' w',(Builtin.append_ #[t,t] ty #[.slice (some ⟨w.heap.size,0,none⟩) 0 0,.slice p l.length d]).run prog (w.alloc (.cells #[] e))=.ok (.slice p' l.length c') w'/\Below w.heap.size w w'/\F6 (fun b=>b<w.heap.size) k f w' (.slice p' l.length c') l/\w'.ownsRow w.heap.size e k (.slice p' l.length c') l.length (Au f l):=by
 have hown0:(w.alloc (.cells #[] e)).ownsRow w.heap.size e k (.slice (some ⟨w.heap.size,0,none⟩) 0 0) 0 []:=⟨sM,.inr ⟨w.heap.size,0,#[],rfl,gF _,heap_alloc_new w _,gF _,mL,sM,sM⟩⟩
 by_cases h0:l=[]
 .subst h0;refine⟨some ⟨w.heap.size,0,none⟩,0,w.alloc (.cells #[] e),?_,A0 _ _,⟨_,_,rfl,.inl rfl⟩,by simpa[Au]using hown0⟩;exact Zdj
 .have h':=h.below (A0 w (.cells #[] e));obtain⟨p',c',hv,h2⟩:=h';simp only[Value.slice.injEq]at hv;obtain⟨rfl,-,rfl⟩:=hv;obtain⟨b,o,rfl,h3⟩:=h2.resolve_left h0;clear h2;have hpos:0<l.length:=List.length_pos_iff.2 h0;obtain⟨g,cap,w',hr,hown,hg,hat,hlt⟩:=run_append_lies (P:=prog) (w.alloc (.cells #[] e)) t ty w.heap.size e i z k bytes ht hi hz hsize hby hzs hk (.slice (some ⟨w.heap.size,0,none⟩) 0 0) 0 [] hown0 ⟨b,o,none⟩ l.length d (Au f l) (Dy hf l) (M7 hk hf h3) Zhb hpos oM (by rw[Nat.zero_add];exact hb) sM _ rfl;rw[Nat.zero_add]at hr hown;rw[List.nil_append]at hown;have hgb:∀g',(Value.slice (some ⟨g,0,none⟩) l.length cap).ownBlock=some g'->w.heap.size<=g':=fun g' e=>(hown.lt g' e).1;refine⟨_,cap,w',hr,⟨hg.os,hg.tape,hg.output,gH sM hg.size,fun j hj=>(hg.block j sO (by show some j≠some w.heap.size;simp;omega)).trans ((A0 w (.cells #[] e)).block j hj)⟩,?_,hown⟩;obtain⟨q,cc,hq,hrow⟩:=Du hf hown;simp only[Value.slice.injEq]at hq;obtain⟨rfl,-,rfl⟩:=hq;refine⟨_,_,rfl,hrow.imp id fun⟨b',o',hp,hh⟩=>⟨b',o',hp,?_,?_,hh⟩⟩
  .simp only[Option.some.injEq,Addr.mk.injEq]at hp;have:=hgb g rfl;omega
  .simp only[Option.some.injEq,Addr.mk.injEq]at hp;have:=(hown.lt g rfl).2;omega
theorem SP(v:Value)(l:List BJ)(w:World)(h:AV 3 AY w v l)(hl:l.length<=1000000):
 Calls prog 18 #[v] w fun e w'=>∃p c,e=.returned (.slice p l.length c)/\F6 (fun b=>b<w.heap.size) 3 AY w' (.slice p l.length c) l/\w'.ownsRow w.heap.size 67 3 (.slice p l.length c) l.length (Au AY l)/\Below w.heap.size w w':=by
 obtain⟨i0,hi0,hz0,hz1,hz2⟩:=info_parts PI;have hv:=h;obtain⟨p,c,rfl,hh⟩:=h;cases p with
 |none=>
  have hn:l=[]:=by
   rcases hh with e|⟨b,o,e,_⟩
   .exact e
   .cases e
  subst hn;clear hh hv;have heq:∀ (w:World) (n:Nat),(binOp .eql 22 (.slice none n c) (.slice none 0 0)).run prog w=.ok (.bool true) w:=fun w n=>Go.run_eql_slice_nil w _ _ none n c underlying22;go_enter func18,ntmps18;go_wp2;go_ret;exact⟨none,0,rfl,⟨_,_,rfl,.inl rfl⟩,World.ownsRow_nil _ _ _ _,BZ _⟩
 |some ad=>
  obtain⟨p',c',w',hr,hb,hrow,hown⟩:=UV dE Hm Wb underlying22 hi0 hz0 hz1 hz2 rfl hv mL oM 22;have HF:Hid (F6 (fun b=>b<w.heap.size) 3 AY w' (.slice p' l.length c') l/\w'.ownsRow w.heap.size 67 3 (.slice p' l.length c') l.length (Au AY l)/\Below w.heap.size w w'):=⟨hrow,hown,hb⟩
  obtain⟨n,hn⟩:=gA (l.length)
  rw[hn]at hr HF |-;clear hh hv hb hrow hown hn;have heq:∀ (w:World),(binOp .eql 22 (.slice (some ad) n c) (.slice none 0 0)).run prog w=.ok (.bool false) w:=fun w=>Go.run_eql_slice_nil w _ _ (some ad) n c underlying22;go_enter func18,ntmps18;go_wp2_with(at_builtin;refine AO rfl _ _ 22 rfl _ _ _ rfl rfl hr ?_);go_ret;exact⟨p',c',rfl,HF.out⟩
theorem Ez{c:Cd}(h:(Ai c).1=0):Good c/\AR c ⟨[],[]⟩ c.list=true:=by
 obtain⟨h1,h2,_⟩:=Bi.1 h;refine⟨?_,h2⟩;unfold CF at h1;by_cases e1:B0 c.sign=0
 .rw[if_neg (by simp[e1])]at h1;by_cases e2:16384<c.regs.length\/32768<c.list.length
  .rw[if_pos e2]at h1;cases h1
  .rw[if_neg e2]at h1;by_cases e3:4096<c.slots.length
   .rw[if_pos e3]at h1;cases h1
   .rw[if_neg e3]at h1;by_cases e4:(Ax c&&BI c)=true
    .simp only[Bool.and_eq_true]at e4;have e5:¬c.sign.length>64/\c.sign.all BP=true:=by
      unfold B0 at e1;by_cases q1:c.sign.length>64
      .rw[if_pos q1]at e1;cases e1
      .rw[if_neg q1]at e1;refine⟨q1,?_⟩;cases q2:c.sign.all BP with
       |true=>rfl
       |false=>rw[if_pos q2]at e1;cases e1
     have hm:∀p∈c.sign,BP p=true:=List.all_eq_true.1 e5.2;refine⟨fun p hp=>?_,hm,List.all_eq_true.1 e4.1,List.all_eq_true.1 e4.2,oM,oM,oM,oM⟩;have:=hm p hp;unfold BP at this;simp only[Bool.and_eq_true,decide_eq_true_eq]at this;omega
    .rw[if_neg e4]at h1;cases h1
 .rw[if_pos e1]at h1;exact absurd h1 e1
theorem Nv{c:Cd}(hg:Good c){s:Sl}(hs:s∈c.slots)(hb:AH s.bits):P6 c s.ty (Bf c s):=by
 have hm:=hg.slots s hs;unfold Be at hm;simp only[Bool.and_eq_true]at hm;have hb2:=hm.2;unfold EN at hb2;refine⟨by unfold Bf DU;simp,fun y hy=>?_,?_⟩
 .unfold Bf DU at hy;rw[List.eq_of_mem_replicate hy];exact Dn _ hb
 .show 0<=s.int_/\s.int_<=2147483647;split at hb2
  .unfold Dt at hb2;simp only[Bool.and_eq_true,decide_eq_true_eq,beq_iff_eq]at hb2;exact hb2.2
  .simp only[Bool.and_eq_true,beq_iff_eq]at hb2;omega
theorem Mf{c:Cd}{k:Nat}(h:k<(BC c).length)(h':k<c.slots.length):(BC c)[k]=Bf c c.slots[k]:=by simp[BC]
section
variable {w W1 : World} {FR n C : Nat} {sv gv pv : Value}
end
def Ye(c:Cd)(l:List Hd):Nat->List Hd
 |0=>l
 |j+1=>match c.slots[j]? with
  |some s=>if s.keep then Ye c l j else(Ye c l j).set j (Bf c s)
  |none=>Ye c l j
def BY(c:Cd)(l:List Hd):Fr:=⟨fun _=>0,fun _=>0,fun _=>[],Ye c l c.slots.length,fun _ _=>0⟩
def EO(c:Cd)(l:List Hd)(G P:List (List Int)):Fr:=(UG c G P (BY c l,0) c.list).1
theorem GZ(c:Cd)(l:List Hd):∀j,(Ye c l j).length=l.length
 |0=>rfl
 |j+1=>by
  unfold Ye;split
  .split
   .exact GZ c l j
   .rw[List.length_set];exact GZ c l j
  .exact GZ c l j
structure FI(L:List (List Int)):Prop where
 len:L.length<=140737488351232
 lens:∀l∈L,l.length<=140737488351232
 isP:∀l∈L,∀y∈l,AH y
theorem R5{c:Cd}{L:List (List Int)}(h:C8 c.sign (L.map fun l=>l.length)=true)(hk:FI L)(hg:Good c):F5 c L:=by
 have Bl:∀ (ps:List BJ) (M:List (List Int)),(∀p∈ps,BP p=true/\1<=p.len)->C8 ps (M.map fun l=>l.length)=true->M.length=ps.length/\∀p (h:p<M.length),(M[p]).length=(ps[p]?).elim 0 O5:=by
  intro ps;induction ps with
  |nil=>intro M _ h;cases M with
   |nil=>exact⟨rfl,fun p h=>absurd h (Nat.not_lt_zero _)⟩
   |cons a M=>simp[C8]at h
  |cons q ps ih=>
   intro M hm h;cases M with
   |nil=>simp[C8]at h
   |cons a M=>
    simp only[List.map_cons,C8,Bool.and_eq_true,decide_eq_true_eq]at h;obtain⟨i1,i2⟩:=ih M (fun p hp=>hm p (by simp[hp])) h.2;refine⟨by simp[i1],fun p hp=>?_⟩;cases p with
    |zero=>
     show a.length=O5 q;unfold O5;omega
    |succ p=>exact i2 p (by simpa using hp)
 obtain⟨k1,k2⟩:=Bl c.sign L (fun p hp=>⟨hg.kind p hp,(hg.len p hp).1⟩) h;exact⟨k1,k2,hk.isP⟩
theorem F7.cellsOf{T:Nat->Prop}{w:World}{v:Value}{L:List (List Int)}(h:F7 T w v L):∃p c,v=.slice p L.length c/\∀i (hi:i<L.length),∃b o q d,p=some ⟨b,o,none⟩/\w.cell? ⟨b,o+i,none⟩=some (.slice q (L[i]).length d)/\Bb w q (L[i]).length (fun j=>.int .u32 (CG L[i] j)):=by
 obtain⟨p,c,hv,hh⟩:=h;refine⟨p,c,hv,fun i hi=>?_⟩;rcases hh with e|⟨b,o,hp,_,_,hh⟩
 .rw[e]at hi;exact absurd hi (Nat.not_lt_zero _)
 .obtain⟨u,h1,h2⟩:=hh i hi;obtain⟨q,d,hq⟩:=h2.len;rw[hq]at h1 h2;exact⟨b,o,q,d,hp,h1,h2.reads.2⟩
theorem Hr(v0 v1 v2 v3:Value)(c:Cd)(hk:Ba c)(w:World)(hv:CD w v0 v1 v2 v3 c):
 Calls prog 19 #[.agg #[v0,v1,v2,v3]] w fun e w'=>e=.returned (.tuple #[.int .i64 (Ai c).1,.int .i64 (Ai c).2])/\Below w.heap.size w w':=by
 by_cases h0:B0 c.sign=0
 .by_cases h1:16384<c.regs.length\/32768<c.list.length
  .have e:Ai c=(181,-1):=by unfold Ai CF;simp[h0,h1]
   rw[e];exact Fp v0 v1 v2 v3 c hk w hv 181 (.inr (.inl ⟨h0,h1,rfl⟩))
  .by_cases h2:4096<c.slots.length
   .have e:Ai c=(180,-1):=by unfold Ai CF;simp[h0,h1,h2]
    rw[e];exact Fp v0 v1 v2 v3 c hk w hv 180 (.inr (.inr ⟨h0,fun e=>h1 (.inl e),fun e=>h1 (.inr e),h2,rfl⟩))
   .refine Oj v0 v1 v2 v3 c hk w hv h0 oM oM oM _ _ ?_;have hA:CF c=if(Ax c&&BI c)=true then 0 else 160:=by
     unfold CF;rw[if_neg (fun e=>e h0),if_neg h1,if_neg h2]
    unfold Ai;rw[hA];by_cases h3:(Ax c&&BI c)=true
    .rw[if_pos h3,if_pos h3,if_neg dE]
    .rw[if_neg h3,if_neg h3,if_pos dE]
 .have e:Ai c=(B0 c.sign,-1):=by unfold Ai CF;simp[h0]
  rw[e];exact Fp v0 v1 v2 v3 c hk w hv _ (.inl ⟨h0,rfl⟩)
def C6(w:World)(p:Option Addr)(l:List Int):Prop:=Bb w p l.length (fun j=>.int .i64 (CG l j))
theorem C6.below{w w':World}{p:Option Addr}{l:List Int}(h:C6 w p l)(k:Below w.heap.size w w'):C6 w' p l:=Bb.below h k
structure Cl where
 p:Option Addr
 q:Nat
 h:Hd
def SJ(x:Cl):List Value:=[.slice x.p x.h.pats.length x.q,.int .i64 x.h.whole]
def UH(x:Cl):List Value:=[.slice x.p x.h.pats.length x.q]
theorem H8(x:Cl):(SJ x).length=2:=rfl
theorem Jp(x:Cl):(UH x).length=1:=rfl
theorem QW:∀x:Cl,∀u∈SJ x,u.oneCell'=true:=fun x u hu=>by simp[SJ]at hu;rcases hu with rfl|rfl<;>rfl
theorem ZF:∀x:Cl,∀u∈UH x,u.oneCell'=true:=fun x u hu=>by simp[UH]at hu;subst hu;rfl
structure Yg(w:World)(v:Value)(X:List Cl):Prop where
 row:AV 2 SJ w v X
 nums:∀x∈X,C6 w x.p x.h.pats
theorem Yg.below{w w':World}{v:Value}{X:List Cl}(h:Yg w v X)(k:Below w.heap.size w w'):Yg w' v X:=⟨h.row.below k,fun x hx=>(h.nums x hx).below k⟩
structure OuV(w:World)(v:Value)(X:List Cl):Prop where
 row:AV 1 UH w v X
 nums:∀x∈X,C6 w x.p x.h.pats
theorem Ii:(prog.info? 74).map (fun i=>(i.zero,i.size,i.bytes))=some (some (.agg #[.slice none 0 0,.int .i64 0]),2,32):=kR
theorem Lz:(prog.info? 72).map (fun i=>(i.zero,i.size,i.bytes))=some (some (.slice none 0 0),1,24):=kR
theorem JR{c:Cd}(hg:Good c){k:Nat}(h:k<c.sign.length):(lenOf c (k:Int):Int)=c.sign[k].len:=by
 unfold lenOf;rw[Int.toNat_natCast,gB h];have:=(hg.len _ (gD h)).1;simp;omega
theorem Fm(v0 v1 v2 v3:Value)(c:Cd)(hg:Good c)(t:Ty)(ht:t.kind=3->Av t.par c.sign.length=true)(w:World)(hv:CD w v0 v1 v2 v3 c):
 Calls prog 40 #[.agg #[v0,v1,v2,v3],DY t] w fun e w'=>e=.returned (.int .i64 (if t.kind=3 then(lenOf c t.par:Int)else 1))/\Below w.heap.size w w':=by
 obtain⟨K,P⟩:=t;unfold DY;simp only at ht |-;by_cases h3:K=3
 .subst h3;obtain⟨k,rfl,hkl⟩:=Dq (ht rfl);rw[if_pos rfl,JR hg hkl];have hr:=hv.sign;obtain⟨p,q,rfl,hrr⟩:=hv.sign;obtain⟨lb,lo,rfl,hc⟩:=hr.at hkl;obtain⟨⟨nm,K,L⟩,hT⟩:∃t:BJ,c.sign[k]=t:=⟨_,rfl⟩
  rw[hT]at hc |-;have hlen:=hg.signL;have y2:w.cell? ⟨lb,lo+k*3+2,none⟩=some (.int .i64 L):=hc.at 2 rfl;have g2:∀o o',((w.alloc o).alloc o').cell? ⟨lb,lo+k*3+2,none⟩=some (.int .i64 L):=fun o o'=>kc (bel (A0 _ _) (A0 _ _)) y2;obtain⟨N,hN⟩:=gA (c.sign.length)
  rw[hN]at hkl hlen |-;clear hr hrr hc hT hv hN ht;simp only;go_enter func40,ntmps40;go_wp2;go_ret;exact UP
 .rw[if_neg h3];have h3':(K==3)=false:=by simpa using h3
  clear h3 ht;go_enter func40,ntmps40;go_wp2;go_ret;exact UP
theorem J1(b:Bool)(w:World):Calls prog 65 #[.bool b] w fun e w'=>e=.returned (.int .i64 (BG b))/\w'=w:=by
 cases b
 all_goals
  go_enter func65,ntmps65;go_wp2;go_ret;exact⟨rfl,rfl⟩
def EF(V:List Int)(k n len:Nat):List Int:=(List.range len).map fun e=>An (CG V (k*e+n))
theorem LP(V:List Int)(k n len:Nat):(EF V k n len).length=len:=by simp[EF]
theorem Ke(V:List Int)(k n j:Nat):EF V k n (j+1)=EF V k n j++[An (CG V (k*j+n))]:=by simp[EF,List.range_succ]
theorem ZI{w:World}{B:Nat}{p:Option Addr}{q:Nat}{l:List Int}(h:w.ownsRow B 3 1 (.slice p l.length q) l.length (Cg l)):C6 w p l:=by
 by_cases h0:l.length=0
 .exact .inl h0
 .obtain⟨g,cap,e,_⟩:=h.form oM;simp only[Value.slice.injEq]at e;obtain⟨rfl,-,-⟩:=e;refine .inr ⟨g,0,rfl,fun j hj=>?_⟩;rw[Nat.zero_add,h.cellAt j oM];simp[Cg,CG,hj]
theorem EE{w:World}{B:Nat}{e:TypeId}{k:Nat}{p:Option Addr}{n m q:Nat}{xs:List Value}(h:w.ownsRow B e k (.slice p n q) m xs):∀b o s,p=some ⟨b,o,s⟩->B<=b:=by
 intro b o s e;subst e;rcases h.2 with⟨e1,-⟩|⟨g,cap,cur,e1,hb,-⟩
 .simp at e1
 .simp only[Value.slice.injEq,Option.some.injEq,Addr.mk.injEq]at e1;omega
theorem Ou(nm:ByteArray)(K:Int)(len:Nat)(hlen:len<=4096)(k:Nat)(hk:k=if K=2 then 2 else 1)(V:List Int)(hV:∀y∈V,AH y)(p:Option Addr)(q n:Nat)(hn:n<k)(hm:k*len<=V.length)(hVL:V.length<=1048576)(w:World)(hr:Bb w p V.length (fun j=>.int .u32 (CG V j))):
 Calls prog 69 #[.agg #[.string nm,.int .i64 K,.int .i64 (len:Int)],.slice p V.length q,.int .i64 (n:Int)] w fun e w'=>∃p' q',e=.returned (.slice p' len q')/\C6 w' p' (EF V k n len)/\Below w.heap.size w w'/\∀b o s,p'=some ⟨b,o,s⟩->w.heap.size<=b:=by
 have HRD:Hid (Bb w p V.length (fun j=>.int .u32 (CG V j))):=hr;have HV:Hid (∀j,AH (CG V j)):=fun j=>CR hV j;obtain⟨M,hM⟩:=gA (V.length)
 rw[hM]at HRD hVL hm |-;have hC:∀v,Below (w.alloc (.cells #[.string nm,.int .i64 K,.int .i64 (len:Int)] 67)).heap.size (w.alloc (.cells #[.string nm,.int .i64 K,.int .i64 (len:Int)] 67)) v->v.cell? ⟨w.heap.size,2,none⟩=some (.int .i64 (len:Int)):=fun v hb=>kc hb sG;have HC:Hid _:=hC;have hk2:((K==2)=true/\k=2)\/((K==2)=false/\k=1):=by
  by_cases h:K=2
  .exact .inl ⟨by simpa using h,by rw[hk,if_pos h]⟩
  .exact .inr ⟨by simpa using h,by rw[hk,if_neg h]⟩
 clear hV hr hM hk hC;rcases hk2 with⟨hKb,rfl⟩|⟨hKb,rfl⟩
 .go_enter func69,ntmps69;go_wp2
  go_loopw [8,9] (fun ov iv wr=>Below (w.alloc (.cells #[.string nm,.int .i64 K,.int .i64 (len:Int)] 67)).heap.size (w.alloc (.cells #[.string nm,.int .i64 K,.int .i64 (len:Int)] 67)) wr/\∃ (j:Nat) (pp:Option Addr) (qq:Nat),j<=len/\iv=.int .i64 (j:Int)/\ov=.slice pp j qq/\Hid (wr.ownsRow (w.alloc (.cells #[.string nm,.int .i64 K,.int .i64 (len:Int)] 67)).heap.size 3 1 (.slice pp j qq) j (Cg (EF V 2 n j)))) (fun _ iv _=>len-(intOf iv).toNat)
  case atStart=>exact⟨BZ _,0,none,0,gI _,rfl,rfl,World.ownsRow_nil _ _ _ 1⟩
  case round=>
   obtain⟨hb,j,pp,qq,hj,rfl,rfl,how⟩:=hrel;have c2:=HC.out wr hb;have HB:Hid (Below (w.alloc (.cells #[.string nm,.int .i64 K,.int .i64 (len:Int)] 67)).heap.size (w.alloc (.cells #[.string nm,.int .i64 K,.int .i64 (len:Int)] 67)) wr):=hb;by_cases hlt:j<len
   .have hi:2*j+n<M:=oM;rcases HRD.out with h0|⟨b,o,rfl,hcell⟩
    .omega
    have hc:=hcell (2*j+n) hi;simp only at hc;have y:=kc (bel (A0 _ _) hb) hc;have hP:=HV.out (2*j+n);have KC:=Fo (CG V (2*j+n)) hP.1 hP.2;have KA:=fun x=>Gq (V:=wr) underlying72 D8 rfl dE how.out hb.size #[.int .i64 x] rfl Zgn mL oM 72;obtain⟨g,c',w8,hap,hb8,ho8,-⟩:=KA (An (CG V (2*j+n)));have HNX:Hid (w8.ownsRow (w.alloc (.cells #[.string nm,.int .i64 K,.int .i64 (len:Int)] 67)).heap.size 3 1 (.slice (some ⟨g,0,none⟩) (j+1) c') (j+1) (Cg (EF V 2 n (j+1)))):=by
     show World.ownsRow _ _ _ _ _ _ _;rw[Ke,D1];exact ho8
    have HB8:Hid (Below (w.alloc (.cells #[.string nm,.int .i64 K,.int .i64 (len:Int)] 67)).heap.size wr w8):=hb8;have HAP:Hid _:=hap;have HKC:Hid _:=KC;obtain⟨z,hz⟩:=gA (CG V (2*j+n))
    rw[hz]at y hP HKC HAP;have t0:(j:Int)<(len:Int):=oM;have t1:IntKind.i64.wrap (2*(j:Int))=2*(j:Int):=by rw[IntKind.wrap_i64];omega
    have t2:IntKind.i64.wrap (2*(j:Int)+(n:Int))=((2*j+n:Nat):Int):=by rw[IntKind.wrap_i64];omega
    have t3:(0:Int)<=((2*j+n:Nat):Int):=oM;have t4:((2*j+n:Nat):Int)<(M:Int):=oM;have t5:IntKind.i64.wrap ((j:Int)+1)=((j+1:Nat):Int):=by rw[IntKind.wrap_i64];omega
    have t6:IntKind.i64.wrap z=z:=by rw[IntKind.wrap_i64];have:=hP.1;have:=hP.2;omega
    obtain⟨ix,hix⟩:=gA (2*j+n)
    exact Zcv
   have hjn:j=len:=oM;have e1:¬ (j:Int)<(len:Int):=oM;have HF:Hid (C6 wr pp (EF V 2 n len)):=by
    exact Zef
   exact Zcr
 .go_enter func69,ntmps69;go_wp2
  go_loopw [8,9] (fun ov iv wr=>Below (w.alloc (.cells #[.string nm,.int .i64 K,.int .i64 (len:Int)] 67)).heap.size (w.alloc (.cells #[.string nm,.int .i64 K,.int .i64 (len:Int)] 67)) wr/\∃ (j:Nat) (pp:Option Addr) (qq:Nat),j<=len/\iv=.int .i64 (j:Int)/\ov=.slice pp j qq/\Hid (wr.ownsRow (w.alloc (.cells #[.string nm,.int .i64 K,.int .i64 (len:Int)] 67)).heap.size 3 1 (.slice pp j qq) j (Cg (EF V 1 n j)))) (fun _ iv _=>len-(intOf iv).toNat)
  case atStart=>exact⟨BZ _,0,none,0,gI _,rfl,rfl,World.ownsRow_nil _ _ _ 1⟩
  case round=>
   obtain⟨hb,j,pp,qq,hj,rfl,rfl,how⟩:=hrel;have c2:=HC.out wr hb;have HB:Hid (Below (w.alloc (.cells #[.string nm,.int .i64 K,.int .i64 (len:Int)] 67)).heap.size (w.alloc (.cells #[.string nm,.int .i64 K,.int .i64 (len:Int)] 67)) wr):=hb;by_cases hlt:j<len
   .have hi:j+n<M:=oM;rcases HRD.out with h0|⟨b,o,rfl,hcell⟩
    .omega
    have hc:=hcell (j+n) hi;simp only at hc;have y:=kc (bel (A0 _ _) hb) hc;have hP:=HV.out (j+n);have KC:=Fo (CG V (j+n)) hP.1 hP.2;have KA:=fun x=>Gq (V:=wr) underlying72 D8 rfl dE how.out hb.size #[.int .i64 x] rfl Zgn mL oM 72;obtain⟨g,c',w8,hap,hb8,ho8,-⟩:=KA (An (CG V (j+n)));have HNX:Hid (w8.ownsRow (w.alloc (.cells #[.string nm,.int .i64 K,.int .i64 (len:Int)] 67)).heap.size 3 1 (.slice (some ⟨g,0,none⟩) (j+1) c') (j+1) (Cg (EF V 1 n (j+1)))):=by
     show World.ownsRow _ _ _ _ _ _ _;rw[Ke,Nat.one_mul,D1];exact ho8
    have HB8:Hid (Below (w.alloc (.cells #[.string nm,.int .i64 K,.int .i64 (len:Int)] 67)).heap.size wr w8):=hb8;have HAP:Hid _:=hap;have HKC:Hid _:=KC;obtain⟨z,hz⟩:=gA (CG V (j+n))
    rw[hz]at y hP HKC HAP;have t0:(j:Int)<(len:Int):=oM;have t1:IntKind.i64.wrap (j:Int)=(j:Int):=by rw[IntKind.wrap_i64];omega
    have t2:IntKind.i64.wrap ((j:Int)+(n:Int))=((j+n:Nat):Int):=by rw[IntKind.wrap_i64];omega
    have t3:(0:Int)<=((j+n:Nat):Int):=oM;have t4:((j+n:Nat):Int)<(M:Int):=oM;have t5:IntKind.i64.wrap ((j:Int)+1)=((j+1:Nat):Int):=by rw[IntKind.wrap_i64];omega
    have t6:IntKind.i64.wrap z=z:=by rw[IntKind.wrap_i64];have:=hP.1;have:=hP.2;omega
    obtain⟨ix,hix⟩:=gA (j+n)
    exact Zcv
   have hjn:j=len:=oM;have e1:¬ (j:Int)<(len:Int):=oM;have HF:Hid (C6 wr pp (EF V 1 n len)):=by
    exact Zef
   exact Zcr
def Df(op a b c:Int):Int:=
 if op=21 then min (a+1) 2147483647
 else if op=22 then BG (decide (a<b))
 else if op=23 then BG (a==b)
 else if op=24 then BG (a != 0&&b != 0)
 else if op=25 then BG (a==0)
 else if op=26 then(if a=0 then c else b)
 else if op=27 then max (a-b) 0
 else if b=0 then 0 else a/b
theorem Qx(op a b c:Int)(ho:21<=op/\op<=28)(ha:0<=a/\a<=2147483647)(hb:0<=b/\b<=2147483647)(w:World):
 Calls prog 68 #[.int .i64 op,.int .i64 a,.int .i64 b,.int .i64 c] w fun e w'=>e=.returned (.int .i64 (Df op a b c))/\w'=w:=by
 have KF:Hid (∀x v,Calls prog 65 #[.bool x] v fun e w'=>e=.returned (.int .i64 (BG x))/\w'=v):=J1;obtain⟨a0,a1⟩:=ha;obtain⟨b0,b1⟩:=hb;have:op=21\/op=22\/op=23\/op=24\/op=25\/op=26\/op=27\/op=28:=oM;rcases this with rfl|rfl|rfl|rfl|rfl|rfl|rfl|rfl
 .rw[show Df 21 a b c=min (a+1) 2147483647 from rfl];have t:IntKind.i64.wrap (a+1)=a+1:=by rw[IntKind.wrap_i64];omega
  exact Zdg
 .rw[show Df 22 a b c=BG (decide (a<b))from rfl];exact Zbu
 .rw[show Df 23 a b c=BG (a==b)from rfl];exact Zbu
 .rw[show Df 24 a b c=BG (a != 0&&b != 0)from rfl];cases hz:(a != 0)
  .rw[Bool.false_and];have hz':(a==0)=true:=by simpa using hz
   exact Zbu
  .rw[Bool.true_and];have hz':(a==0)=false:=by simpa using hz
   exact Zbu
 .rw[show Df 25 a b c=BG (a==0)from rfl];exact Zbu
 .rw[show Df 26 a b c=(if a=0 then c else b)from rfl];by_cases hz:a=0
  .rw[if_pos hz];have hz':(a != 0)=false:=by simpa using hz
   have hz2:(a==0)=true:=by simpa using hz
   clear hz a0 a1;exact Zdg
  .rw[if_neg hz];have hz':(a != 0)=true:=by simpa using hz
   have hz2:(a==0)=false:=by simpa using hz
   clear hz;exact Zdg
 .rw[show Df 27 a b c=max (a-b) 0 from rfl];have t:IntKind.i64.wrap (a-b)=a-b:=by rw[IntKind.wrap_i64];omega
  exact Zdg
 .rw[show Df 28 a b c=(if b=0 then 0 else a/b)from rfl];by_cases hz:b=0
  .rw[if_pos hz];have hz2:(b==0)=true:=by simpa using hz
   clear hz b0 b1;exact Zdg
  .rw[if_neg hz];have hz2:(b==0)=false:=by simpa using hz
   have ht:a.tdiv b=a/b:=by rw[Int.tdiv_eq_ediv_of_nonneg a0]
   have hw:IntKind.i64.wrap (a/b)=a/b:=by
    rw[IntKind.wrap_i64];have h1:=Int.ediv_nonneg a0 b0;have h2:=Int.ediv_le_self b a0;omega
   go_enter func68,ntmps68;go_wp2;go_ret;first
    |exact⟨rfl,rfl⟩
    |(refine⟨?_,rfl⟩;simp[ht,hw])
theorem Ji(n:Nat)(x:Int){j:Nat}(h:j<n):CG (List.replicate n x) j=x:=by simp[CG,h]
theorem Iv(n:Nat)(x:Int)(hx:AH x)(hn:n<=65536)(w:World):
 Calls prog 39 #[.int .i64 n,.int .i64 x] w fun e w'=>∃q cap,e=.returned (.tuple #[.slice q n cap,.int .i64 0])/\Bb w' q n (fun i=>.int .i64 (An x))/\Below w.heap.size w w'/\∀b o s,q=some ⟨b,o,s⟩->w.heap.size<=b:=by
 obtain⟨i0,hi0,hz0,hz1,hz2⟩:=info_parts Vv;have h1:¬ ((n:Int)<0):=oM;have h2:(n:Int)<=65536:=oM;go_enter func39,ntmps39;go_wp2
 go_loopw [6,7] (fun ov iv wr=>Below w.heap.size w wr/\∃ (k:Nat) (v:Value),v=ov/\k<=n/\iv=.int .i64 k/\Hid (wr.ownsRow w.heap.size 3 1 v k (IK (fun i=>.int .i64 (An x)) k))) (fun _ iv _=>n-(intOf iv).toNat)
 case atStart=>exact⟨BZ w,0,_,rfl,gI _,rfl,World.ownsRow_nil _ _ _ _⟩
 case round=>
  obtain⟨hb,k,ov,rfl,hk,rfl,hown⟩:=hrel;by_cases hlt:k<n
  .have i1:(0:Int)<=(k:Int):=oM;have i2:(k:Int)<(n:Int):=oM;have sz:=hb.size;have hob:Hid (∀j,ov.ownBlock=some j->w.heap.size<=j/\j<wr.heap.size):=hown.lt;go_wp2_with(first
    |(go_at_call 60;refine(Fo _ hx.1 hx.2 _).mono ?_;rintro e w0 ⟨rfl,hw'⟩;obtain rfl:=hw'.symm)
    |(at_builtin;refine wpList_append_own _ rfl _ _ 72 rfl w.heap.size 3 i0 _ 1 8 underlying72 hi0 hz0 hz1 hz2 rfl dE ov k (IK (fun i=>.int .i64 (An x)) k) rfl (hown.alloc _) ⟨wr.heap.size,0,none⟩ 1 1 [.int .i64 (An x)] rfl rfl (World.news_of_block (cs:=#[.int .i64 (An x)]) (t:=3) (fr:=(0,0)) (heap_alloc_new wr _)) Sx mL oM sO ?_;intro v' w1 hown1 hgrow hnil;have HB:Below w.heap.size w w1:=Below.grown (hb.alloc sz _) hgrow sO (fun j e=>(hob.out j e).1);have HO:Hid (w1.ownsRow w.heap.size 3 1 v' (k+1) (IK (fun i=>.int .i64 (An x)) k++[.int .i64 (An x)])):=hown1;clear hown1 hgrow hnil))
   go_roundw
   case rel=>exact⟨HB,k+1,_,rfl,oM,gN,by rw[Mk];exact HO⟩
   case measure=>simp[intOf];omega
  .have:k=n:=oM;subst this;obtain⟨q,cap,rfl,hR,hg,-⟩:=LO hown.out;have HR:Hid (Bb wr q k (fun i=>.int .i64 (An x))):=hR;have HG:Hid (∀b o s,q=some ⟨b,o,s⟩->w.heap.size<=b):=hg;clear hR hg hown;go_wp2;go_returns;first|exact⟨_,_,rfl,HR.out,hb,HG.out⟩|exact⟨_,⟨_,rfl⟩,HR.out,hb,HG.out⟩
structure P5(w:World)(v0 v1 v2 v3:Value)(tk tp:Int)(kp:Bool)(sb si:Int)(v:World):Prop where
 bel:Below w.heap.size w v
 c0:v.cell? ⟨w.heap.size,0,none⟩=some v0
 c1:v.cell? ⟨w.heap.size,1,none⟩=some v1
 c2:v.cell? ⟨w.heap.size,2,none⟩=some v2
 c3:v.cell? ⟨w.heap.size,3,none⟩=some v3
 s0:v.cell? ⟨w.heap.size+1,0,none⟩=some (.int .i64 tk)
 s1:v.cell? ⟨w.heap.size+1,1,none⟩=some (.int .i64 tp)
 s2:v.cell? ⟨w.heap.size+1,2,none⟩=some (.bool kp)
 s3:v.cell? ⟨w.heap.size+1,3,none⟩=some (.int .u32 sb)
 s4:v.cell? ⟨w.heap.size+1,4,none⟩=some (.int .i64 si)
 r0:v.cell? ⟨w.heap.size+1+1,0,none⟩=some (.slice none 0 0)
 r1:v.cell? ⟨w.heap.size+1+1,1,none⟩=some (.int .i64 0)
 f0:v.frozen? ⟨w.heap.size+1+1,0,none⟩=false
 f1:v.frozen? ⟨w.heap.size+1+1,1,none⟩=false
theorem P5.next{w:World}{v0 v1 v2 v3:Value}{tk tp:Int}{kp:Bool}{sb si:Int}{v v':World}(h:P5 w v0 v1 v2 v3 tk tp kp sb si v)(k:Below v.heap.size v v'):P5 w v0 v1 v2 v3 tk tp kp sb si v':=
 ⟨Go.Proofs.YtnbccaicijcklaaGreat.bel h.bel k,kc k h.c0,kc k h.c1,kc k h.c2,kc k h.c3,kc k h.s0,kc k h.s1,kc k h.s2,kc k h.s3,kc k h.s4,kc k h.r0,kc k h.r1,kf k h.r0 h.f0,kf k h.r1 h.f1⟩
theorem P5.start(w:World)(v0 v1 v2 v3:Value)(tk tp:Int)(kp:Bool)(sb si:Int):P5 w v0 v1 v2 v3 tk tp kp sb si (((w.alloc (.cells #[v0,v1,v2,v3] 27)).alloc (.cells #[.int .i64 tk,.int .i64 tp,.bool kp,.int .u32 sb,.int .i64 si] 64)).alloc (.cells #[.slice none 0 0,.int .i64 0] 74)):=by
 have k1:=A0 (w.alloc (.cells #[v0,v1,v2,v3] 27)) (.cells #[.int .i64 tk,.int .i64 tp,.bool kp,.int .u32 sb,.int .i64 si] 64);have k2:=A0 ((w.alloc (.cells #[v0,v1,v2,v3] 27)).alloc (.cells #[.int .i64 tk,.int .i64 tp,.bool kp,.int .u32 sb,.int .i64 si] 64)) (.cells #[.slice none 0 0,.int .i64 0] 74);refine⟨Go.Proofs.YtnbccaicijcklaaGreat.bel (A0 _ _) (Go.Proofs.YtnbccaicijcklaaGreat.bel k1 k2),kc k2 (kc k1 ?_),kc k2 (kc k1 ?_),kc k2 (kc k1 ?_),kc k2 (kc k1 ?_),kc k2 ?_,kc k2 ?_,kc k2 ?_,kc k2 ?_,kc k2 ?_,?_,?_,?_,?_⟩
 all_goals simp[go_sem]
theorem Kk(v0 v1 v2 v3:Value)(c:Cd)(hg:Good c)(s:Sl)(hs:Be s c.sign.length=true)(hb:AH s.bits)(w:World)(hv:CD w v0 v1 v2 v3 c):
 Calls prog 24 #[.agg #[v0,v1,v2,v3],Sk s] w fun e w'=>∃p q,e=.returned (.agg #[.slice p (Bf c s).pats.length q,.int .i64 (Bf c s).whole])/\C6 w' p (Bf c s).pats/\Below w.heap.size w w'/\∀b o s,p=some ⟨b,o,s⟩->w.heap.size<=b:=by
 have hw:=hg.width s.ty;have hmay:=hs;unfold Be at hmay;simp only[Bool.and_eq_true]at hmay;obtain⟨m1,m2⟩:=hmay;have hpl:s.ty.kind=3->Av s.ty.par c.sign.length=true:=fun h3=>by
  unfold AF at m1;rw[if_neg oM,if_pos h3]at m1;exact m1
 have hkd:s.ty.kind=1\/s.ty.kind=2\/s.ty.kind=3:=by
  unfold AF at m1;by_cases h1:s.ty.kind=1\/s.ty.kind=2
  .rcases h1 with h1|h1
   .exact .inl h1
   .exact .inr (.inl h1)
  .rw[if_neg h1]at m1;by_cases h3:s.ty.kind=3
   .exact .inr (.inr h3)
   .rw[if_neg h3]at m1;exact absurd m1 dE
 have KW:=Fm v0 v1 v2 v3 c hg s.ty hpl;unfold EN at m2;obtain⟨⟨tk,tp⟩,kp,sb,si⟩:=s;unfold Bf Sk DU;unfold DY at KW;simp only at hw hpl hkd KW m2 hb |-;have HT0:=P5.start w v0 v1 v2 v3 tk tp kp sb si;by_cases h2:tk=2
 .have hw0:B4 c ⟨tk,tp⟩=0:=by unfold B4;simp[h2]
  rw[hw0];have h2b:(tk==2)=true:=by simpa using h2
  obtain⟨-,c0,c1,c2,c3,s0,s1,s2,s3,s4,r0,r1,f0,f1⟩:=HT0;clear KW m1 m2 hpl hkd h2;go_enter func24,ntmps24;go_wp2;refine bodyPost_ret (by simp[results,results24,go_sem];try rfl) rfl ?_;exact⟨none,0,rfl,.inl rfl,gG,fun b o s e=>by simp at e⟩
 .have h2b:(tk==2)=false:=by simpa using h2
  rw[if_neg h2]at m2;simp only[Bool.and_eq_true,beq_iff_eq]at m2;have HSI:Hid (si=0):=m2.1;obtain⟨n,hn⟩:∃n:Nat,(if tk=3 then(lenOf c tp:Int)else 1)=(n:Int)/\B4 c ⟨tk,tp⟩=n:=by
   unfold B4;simp only;rcases hkd with e|e|e
   .exact⟨1,by simp[e],by simp[e]⟩
   .exact absurd e h2
   .exact⟨lenOf c tp,by simp[e],by simp[e]⟩
  rw[hn.1]at KW;rw[hn.2]at hw |-;have KFI:=Iv n sb hb oM;have HKW:Hid (∀v,Below w.heap.size w v->Calls prog 40 #[.agg #[v0,v1,v2,v3],.agg #[.int .i64 tk,.int .i64 tp]] v fun e w'=>e=.returned (.int .i64 (n:Int))/\Below v.heap.size v w'):=fun v hb=>KW v (hv.below hb);have HKF:Hid (∀v,Calls prog 39 #[.int .i64 (n:Int),.int .i64 sb] v fun e w'=>∃q cap,e=.returned (.tuple #[.slice q n cap,.int .i64 0])/\Bb w' q n (fun i=>.int .i64 (An sb))/\Below v.heap.size v w'/\∀b o s,q=some ⟨b,o,s⟩->v.heap.size<=b):=KFI;have HT:Hid (P5 w v0 v1 v2 v3 tk tp kp sb si (((w.alloc (.cells #[v0,v1,v2,v3] 27)).alloc (.cells #[.int .i64 tk,.int .i64 tp,.bool kp,.int .u32 sb,.int .i64 si] 64)).alloc (.cells #[.slice none 0 0,.int .i64 0] 74))):=HT0;have hsb:IntKind.i64.wrap sb=sb:=by rw[IntKind.wrap_i64];have:=hb.1;have:=hb.2;omega
  obtain⟨-,c0,c1,c2,c3,s0,s1,s2,s3,s4,r0,r1,f0,f1⟩:=HT0;clear KW KFI m1 m2 hpl hkd h2 hn hs hv;go_enter func24,ntmps24;go_wp2;refine rG (fun v=>v.cell? ⟨w.heap.size,0,none⟩=some v0/\v.cell? ⟨w.heap.size,1,none⟩=some v1/\v.cell? ⟨w.heap.size,2,none⟩=some v2/\v.cell? ⟨w.heap.size,3,none⟩=some v3/\v.cell? ⟨w.heap.size+1,0,none⟩=some (.int .i64 tk)/\v.cell? ⟨w.heap.size+1,1,none⟩=some (.int .i64 tp)/\v.cell? ⟨w.heap.size+1,3,none⟩=some (.int .u32 sb)) fun hJ=>?_;refine Tf 0 1 2 4 5 6 ?_;clear hJ;refine Aw 3 fun K hK=>?_;go_simp;(go_at_call 40;(with_reducible refine(HKW.out _ (bel HT.out.bel (A9 _))).mono ?_);rintro e w1 ⟨rfl,hb1⟩;have HB1:Hid (Below (((w.alloc (.cells #[v0,v1,v2,v3] 27)).alloc (.cells #[.int .i64 tk,.int .i64 tp,.bool kp,.int .u32 sb,.int .i64 si] 64)).alloc (.cells #[.slice none 0 0,.int .i64 0] 74)).heap.size (((w.alloc (.cells #[v0,v1,v2,v3] 27)).alloc (.cells #[.int .i64 tk,.int .i64 tp,.bool kp,.int .u32 sb,.int .i64 si] 64)).alloc (.cells #[.slice none 0 0,.int .i64 0] 74)) w1):=bel (A9 _) hb1;clear hb1;obtain⟨-,c0,c1,c2,c3,s0,s1,s2,s3,s4,r0,r1,f0,f1⟩:=HT.out.next HB1.out);try(go_wp2_with fail)
  refine Aq hK fun hJ=>?_;clear hK K;clear hJ;refine Aw 7 fun K hK=>?_;go_simp;(go_at_call 39;(with_reducible refine(HKF.out _).mono ?_);rintro e w2 ⟨pf,qf,rfl,hrf,hb2,hfr⟩;have HFR:Hid (∀b o s,pf=some ⟨b,o,s⟩->w1.heap.size<=b):=hfr;clear hfr;have HS1:Hid (w.heap.size+1+1<w1.heap.size):=A8 r0;have HB2:Hid (Below (((w.alloc (.cells #[v0,v1,v2,v3] 27)).alloc (.cells #[.int .i64 tk,.int .i64 tp,.bool kp,.int .u32 sb,.int .i64 si] 64)).alloc (.cells #[.slice none 0 0,.int .i64 0] 74)).heap.size (((w.alloc (.cells #[v0,v1,v2,v3] 27)).alloc (.cells #[.int .i64 tk,.int .i64 tp,.bool kp,.int .u32 sb,.int .i64 si] 64)).alloc (.cells #[.slice none 0 0,.int .i64 0] 74)) w2):=bel HB1.out hb2;have HRF:Hid (Bb w2 pf n (fun i=>.int .i64 (An sb))):=hrf;clear hb2 hrf c0 c1 c2 c3 s0 s1 s2 s3 s4 r0 r1 f0 f1;obtain⟨-,c0,c1,c2,c3,s0,s1,s2,s3,s4,r0,r1,f0,f1⟩:=HT.out.next HB2.out);try(go_wp2_with fail)
  refine Aq hK fun hJ=>?_;clear hK K;refine Tc 8 9 10 ?_;refine Tb 11 12 ?_;refine wpAnyH_done kR ?_ _;go_wp2;refine bodyPost_ret (by simp[results,results24,go_sem, *];try rfl) rfl ?_;have hbF:Below w.heap.size w ((w2.setCell ⟨w.heap.size+1+1,0,none⟩ (.slice pf n qf)).setCell ⟨w.heap.size+1+1,1,none⟩ (.int .i64 0)):=((bel HT.bel HB2.out).setCell Zgi _).setCell Zgi _;refine⟨pf,qf,by rw[List.length_replicate,HSI.out],?_,hbF,fun b o s e=>by have h3:=HFR.out b o s e;have h4:=HS1.out;omega⟩;show Bb _ _ _ _;rw[List.length_replicate];rcases HRF.out with h0|⟨b,o,rfl,h1⟩
  .exact .inl h0
  .refine .inr ⟨b,o,rfl,fun j hj=>?_⟩;have hne:b≠w.heap.size+1+1:=by have h3:=HFR.out b o none rfl;have h4:=HS1.out;omega
   rw[gC (gE hne),gC (gE hne),h1 j hj];simp only;rw[Ji _ _ hj]
def GY(v:World)(sv:Value)(p:Option Addr)(l:List Int):Prop:=l=[]\/∃b o,p=some ⟨b,o,none⟩/\sv.ownBlock≠some b/\∀j,j<l.length->v.cell? ⟨b,o+j,none⟩=some (.int .i64 (CG l j))
theorem GY.num{v:World}{sv:Value}{p:Option Addr}{l:List Int}(h:GY v sv p l):C6 v p l:=by
 rcases h with rfl|⟨b,o,e,-,h⟩
 .exact .inl rfl
 .exact .inr ⟨b,o,e,h⟩
theorem GY.below{v v':World}{sv:Value}{p:Option Addr}{l:List Int}(h:GY v sv p l)(k:Below v.heap.size v v'):GY v' sv p l:=by
 rcases h with rfl|⟨b,o,e,hn,h⟩
 .exact .inl rfl
 .exact .inr ⟨b,o,e,hn,fun j hj=>kc k (h j hj)⟩
theorem C6.apart{v:World}{sv:Value}{p:Option Addr}{l:List Int}(h:C6 v p l)(ha:∀b o s,p=some ⟨b,o,s⟩->sv.ownBlock≠some b):GY v sv p l:=by
 rcases h with h|⟨b,o,e,h⟩
 .exact .inl (List.length_eq_zero_iff.1 h)
 .exact .inr ⟨b,o,e,ha b o none e,h⟩
theorem GY.grow{V w':World}{p:Option Addr}{n q g c' m:Nat}{pp:Option Addr}{l:List Int}(h:GY V (.slice p n q) pp l)(hk:∀b,b<V.heap.size->(Value.slice p n q).ownBlock≠some b->w'.heap[b]? =V.heap[b]?)(hg:(Value.slice p n q).ownBlock=some g\/V.heap.size<g):GY w' (.slice (some ⟨g,0,none⟩) m c') pp l:=by
 exact Zcp
structure Jt(B:Nat)(v:World)(sv:Value)(X:List Cl):Prop where
 own:v.ownsRow B 74 2 sv X.length (Au SJ X)
 nums:∀x∈X,GY v sv x.p x.h.pats
theorem Jt.below{B:Nat}{v v':World}{sv:Value}{X:List Cl}(h:Jt B v sv X)(k:Below v.heap.size v v'):Jt B v' sv X:=⟨Ak h.own k,fun x hx=>(h.nums x hx).below k⟩
theorem Jt.cs{B:Nat}{v:World}{sv:Value}{X:List Cl}(h:Jt B v sv X):Yg v sv X:=⟨Du H8 h.own,fun x hx=>(h.nums x hx).num⟩
theorem Jt.nil(B:Nat)(v:World):Jt B v (.slice none 0 0) []:=⟨World.ownsRow_nil _ _ _ 2,fun x hx=>by cases hx⟩
theorem Jt.push{B:Nat}{V:World}{p:Option Addr}{q:Nat}{X:List Cl}(h:Jt B V (.slice p X.length q) X)(hB:B<=V.heap.size)(hX:X.length<=16384)(x:Cl)(hx:GY V (.slice p X.length q) x.p x.h.pats)(ty:TypeId):
 ∃g c' w',(Builtin.append_ #[41,41] ty #[.slice p X.length q,.slice (some ⟨V.heap.size,0,none⟩) 1 1]).run prog (V.alloc (.cells #[.slice x.p x.h.pats.length x.q,.int .i64 x.h.whole] 74))=.ok (.slice (some ⟨g,0,none⟩) (X.length+1) c') w'/\Below B V w'/\Jt B w' (.slice (some ⟨g,0,none⟩) (X.length+1) c') (X++[x])/\(∀b,b<V.heap.size->(Value.slice p X.length q).ownBlock≠some b->w'.heap[b]? =V.heap[b]?):=by
 obtain⟨g,c',w',hr,hb,ho,hk,hg⟩:=G4 (V:=V) underlying41 Ii rfl dE h.own hB #[.slice x.p x.h.pats.length x.q,.int .i64 x.h.whole] rfl (fun u hu=>QW x u hu) mL oM ty;refine⟨g,c',w',hr,hb,⟨?_,fun y hy=>?_⟩,hk⟩
 .rw[List.length_append,FS];exact ho
 .rcases List.mem_append.1 hy with e|e
  .exact(h.nums y e).grow hk hg
  .simp only[List.mem_singleton]at e;subst e;exact hx.grow hk hg
inductive Nd(l:List Ad):Nat->Prop where
 |out {k:Nat} (hk:k<l.length) (h:l[k].op=31):Nd l k
 |set {k j:Nat} (hk:k<l.length) (hj:j<l.length) (n:Nd l k) (r:Int) (hr:r∈Ae l[k] (A4 l[k].op)) (hs:Af l[j]=true) (e:l[j].d.toNat=r.toNat):Nd l j
 |store {k j:Nat} (hk:k<l.length) (hj:j<l.length) (n:Nd l k) (h1:l[k].op=32) (h2:l[j].op=33) (e:l[j].n=l[k].n):Nd l j
 |beg {k b:Nat} (hk:k<l.length) (n:Nd l k) (hb:b∈(if l[k].op=35\/l[k].op=37 then(AE (l.take k)).tail else AE (l.take k))):Nd l b
 |fin {k b:Nat} (hk:k<l.length) (n:Nd l b) (hf:l[k].op=35\/l[k].op=37) (hb:(AE (l.take k)).head?=some b):Nd l k
 |begE {k b:Nat} (hk:k<l.length) (n:Nd l k) (hf:l[k].op=35\/l[k].op=37) (hb:(AE (l.take k)).head?=some b):Nd l b
theorem DX(l:List Ad):∀k,k<=l.length->∀b∈AE (l.take k),∃hb:b<l.length,b<k/\(l[b].op=34\/l[b].op=36):=by
 intro k;induction k with
 |zero=>intro _ b hb;cases hb
 |succ k ih=>
  intro hk b hb;have hkl:k<l.length:=oM;rw[List.take_succ_eq_append_getElem hkl,IE,show(l.take k).length=k by rw[List.length_take];omega]at hb;have old:∀b∈AE (l.take k),∃hb:b<l.length,b<k+1/\(l[b].op=34\/l[b].op=36):=fun b hb=>by
   obtain⟨h1,h2,h3⟩:=ih oM b hb;exact⟨h1,oM,h3⟩
  by_cases h1:l[k].op=34\/l[k].op=36
  .rw[if_pos h1]at hb;rcases List.mem_cons.1 hb with e|e
   .subst e;exact⟨hkl,oM,h1⟩
   .exact old b e
  .rw[if_neg h1]at hb;split at hb
   .exact old b (List.mem_of_mem_tail hb)
   .exact old b hb
theorem QU{i:Ad}(h:i.op=34\/i.op=36):Af i=false/\i.op≠32/\i.op≠33:=by
 refine⟨?_,oM,oM⟩;unfold Af;rcases h with e|e<;>(rw[e];decide)
theorem Ff{l:List Ad}{k b:Nat}(hk:k<l.length)(hb:b∈(if l[k].op=35\/l[k].op=37 then(AE (l.take k)).tail else AE (l.take k))):b∈AE (l.take k):=by
 split at hb
 .exact List.mem_of_mem_tail hb
 .exact hb
theorem Nd.setter{l:List Ad}{j:Nat}(h:Nd l j)(hj:j<l.length)(hs:Af l[j]=true):∀k (hk:k<l.length),Af l[k]=true->l[k].d.toNat=l[j].d.toNat->Nd l k:=by
 cases h with
 |out hk o=>unfold Af at hs;rw[o]at hs;exact absurd hs dE
 |set hk0 hj0 n r hr _ e=>exact fun k hk hsk ek=>.set hk0 hk n r hr hsk (ek.trans e)
 |store _ _ _ _ o _=>unfold Af at hs;rw[o]at hs;exact absurd hs dE
 |beg hk n hb=>
  obtain⟨h1,-,h3⟩:=DX l _ oM j (Ff hk hb);rw[(QU h3).1]at hs;cases hs
 |fin hk n hf hb=>unfold Af at hs;rcases hf with e|e<;>(rw[e]at hs;exact absurd hs dE)
 |begE hk n hf hb=>
  obtain⟨h1,-,h3⟩:=DX l _ oM j (List.mem_of_mem_head? hb);rw[(QU h3).1]at hs;cases hs
theorem Nd.stored{l:List Ad}{j:Nat}(h:Nd l j)(hj:j<l.length)(o:l[j].op=33):∃k,∃hk:k<l.length,Nd l k/\l[k].op=32/\l[j].n=l[k].n:=by
 cases h with
 |out hk o'=>omega
 |set _ _ _ _ _ hs _=>unfold Af at hs;rw[o]at hs;exact absurd hs dE
 |store hk _ n o1 _ e=>exact⟨_,hk,n,o1,e⟩
 |beg hk n hb=>
  obtain⟨h1,-,h3⟩:=DX l _ oM j (Ff hk hb);omega
 |fin hk n hf hb=>omega
 |begE hk n hf hb=>
  obtain⟨h1,-,h3⟩:=DX l _ oM j (List.mem_of_mem_head? hb);omega
noncomputable def ndK (l:List Ad) (k:Nat):Bool:=@decide (Nd l k) (Classical.propDecidable _)
theorem BF{l:List Ad}{k:Nat}:ndK l k=true↔Nd l k:=by unfold ndK;simp
theorem Jm{l:List Ad}{k:Nat}:ndK l k=false↔¬Nd l k:=by unfold ndK;simp
def UsR(l:List Ad)(r:Nat):Prop:=∃k,∃hk:k<l.length,Nd l k/\Af l[k]=true/\l[k].d.toNat=r
def UsS(l:List Ad)(n:Nat):Prop:=∃k,∃hk:k<l.length,Nd l k/\(l[k].op=32\/l[k].op=33)/\l[k].n.toNat=n
noncomputable def usR (l:List Ad) (r:Nat):Bool:=@decide (UsR l r) (Classical.propDecidable _)
noncomputable def usS (l:List Ad) (r:Nat):Bool:=@decide (UsS l r) (Classical.propDecidable _)
theorem CA{l:List Ad}{r:Nat}:usR l r=true↔UsR l r:=by unfold usR;simp
theorem EJ{l:List Ad}{r:Nat}:usS l r=true↔UsS l r:=by unfold usS;simp
def AA(p:Nat->Bool)(r:Nat):Nat:=((List.range r).filter p).length
def AU{α:Type}(p:Nat->Bool)(l:List α):List α:=((List.range l.length).filter p).filterMap fun r=>l[r]?
theorem GR(p:Nat->Bool):∀n r,r<n->p r=true->((List.range n).filter p)[AA p r]? =some r:=by
 intro n;induction n with
 |zero=>intro r h;omega
 |succ n ih=>
  intro r hr hp;rw[List.range_succ,List.filter_append];by_cases e:r=n
  .subst e;unfold AA;rw[List.getElem?_append_right (gF _)];simp[hp]
  .have h:=ih r oM hp;rw[List.getElem?_append_left]
   .exact h
   .exact(List.getElem?_eq_some_iff.1 h).1
theorem Mp{p:Nat->Bool}{r s:Nat}(hr:p r=true)(hs:p s=true)(e:AA p r=AA p s):r=s:=by
 have h1:=GR p (r+s+1) r oM hr;have h2:=GR p (r+s+1) s oM hs;rw[e,h2]at h1;simpa using h1.symm
theorem Hp{α:Type}{l:List α}:∀ (m:List Nat),(∀r∈m,r<l.length)->(m.filterMap fun r=>l[r]?).length=m.length/\∀t:Nat,(m.filterMap fun r=>l[r]?)[t]? =(m[t]?).bind fun(r:Nat)=>l[r]?
 |[],_=>⟨rfl,fun t=>by simp⟩
 |a::m,h=>by
  obtain⟨h1,h2⟩:=Hp m (fun r hr=>h r (by simp[hr]));rw[List.filterMap_cons,gB (h a sM)];refine⟨by simp[h1],fun t=>?_⟩;cases t with
  |zero=>simp[h a sM]
  |succ t=>simpa using h2 t
theorem Od{α:Type}(p:Nat->Bool)(l:List α):∀r∈(List.range l.length).filter p,r<l.length:=fun r hr=>by have:=(List.mem_filter.1 hr).1;simpa using this
theorem Ho{α:Type}(p:Nat->Bool)(l:List α):(AU p l).length=((List.range l.length).filter p).length:=(Hp _ (Od p l)).1
theorem MX{α:Type}{p:Nat->Bool}{l:List α}{r:Nat}(hr:r<l.length)(hp:p r=true):(AU p l)[AA p r]? =l[r]? :=by
 have h:=GR p l.length r hr hp;have h2:=(Hp _ (Od p l)).2 (AA p r);rw[h]at h2;exact h2
theorem Hn{α:Type}(p:Nat->Bool)(l:List α):(AU p l).length<=l.length:=by
 rw[Ho];have:=List.length_filter_le p (List.range l.length);simpa using this
theorem Kf{α:Type}{p:Nat->Bool}{l:List α}{x:α}(h:x∈AU p l):x∈l:=by
 unfold AU at h;obtain⟨r,-,hr⟩:=List.mem_filterMap.1 h;exact List.mem_of_getElem? hr
def CV(rho sig:Nat->Nat)(i:Ad):Ad:=
 {i with d:=if(A4 i.op).d=0 then i.d else((rho i.d.toNat:Nat):Int),a:=if(A4 i.op).a=0 then i.a else((rho i.a.toNat:Nat):Int),b:=if(A4 i.op).b=0 then i.b else((rho i.b.toNat:Nat):Int),c:=if(A4 i.op).c=0 then i.c else((rho i.c.toNat:Nat):Int),n:=if i.op=32\/i.op=33 then((sig i.n.toNat:Nat):Int)else i.n}
noncomputable def pruneC (c:Cd):Cd:=⟨c.sign,AU (usR c.list) c.regs,AU (usS c.list) c.slots,Bc (ndK c.list) (CV (AA (usR c.list)) (AA (usS c.list))) c.list c.list.length⟩
def CE(l:List Ad)(b k:Nat):Prop:=∃hk:k<l.length,(l[k].op=35\/l[k].op=37)/\(AE (l.take k)).head?=some b
def OY(l:List Ad)(k:Nat):List Nat:=if(l[k]?.map fun i=>decide (i.op=35\/i.op=37))=some true then(AE (l.take k)).tail else AE (l.take k)
theorem F8{l:List Ad}{k:Nat}(hk:k<l.length):OY l k=if l[k].op=35\/l[k].op=37 then(AE (l.take k)).tail else AE (l.take k):=by
 unfold OY;rw[gB hk];simp
theorem IF{l:List Ad}{j:Nat}(hj:j<l.length):AE (l.take (j+1))=if l[j].op=34\/l[j].op=36 then j::AE (l.take j)else if l[j].op=35\/l[j].op=37 then(AE (l.take j)).tail else AE (l.take j):=by
 rw[List.take_succ_eq_append_getElem hj,IE,show(l.take j).length=j by rw[List.length_take];omega]
theorem Ge{l:List Ad}:∀k,k<=l.length->∀b S,AE (l.take k)=b::S->b<k/\AE (l.take b)=S:=by
 intro k;induction k using Nat.strongRecOn with
 |ind k ih=>
  intro hk b S hs;cases k with
  |zero=>cases hs
  |succ k=>
   have hkl:k<l.length:=oM;rw[IF hkl]at hs;by_cases h1:l[k].op=34\/l[k].op=36
   .rw[if_pos h1]at hs;simp only[List.cons.injEq]at hs;obtain⟨rfl,rfl⟩:=hs;exact⟨oM,rfl⟩
   .rw[if_neg h1]at hs;by_cases h2:l[k].op=35\/l[k].op=37
    .rw[if_pos h2]at hs;cases hq:AE (l.take k)with
     |nil=>rw[hq]at hs;cases hs
     |cons b0 S0=>
      rw[hq]at hs;simp only[List.tail_cons]at hs;subst hs;obtain⟨g1,g2⟩:=ih k oM oM b0 _ hq;obtain⟨g3,g4⟩:=ih b0 oM oM b S g2;exact⟨oM,g4⟩
    .rw[if_neg h2]at hs;obtain⟨g1,g2⟩:=ih k oM oM b S hs;exact⟨oM,g2⟩
theorem XT{l:List Ad}{k:Nat}(hk:k<=l.length){b:Nat}(hb:b∈AE (l.take k)):b<k:=by
 obtain⟨-,h,-⟩:=DX l k hk b hb;exact h
theorem XV{l:List Ad}{k:Nat}(hk:k<=l.length){b:Nat}{S:List Nat}(hs:AE (l.take k)=b::S):b∉S:=fun hm=>by
 obtain⟨g1,g2⟩:=Ge k hk b S hs;have:=XT (l:=l) (k:=b) oM (by rw[g2];exact hm);omega
theorem Ij{l:List Ad}{b k1 k2:Nat}(h1:CE l b k1)(h2:CE l b k2):k1=k2:=by
 have Bl:∀ {k1 k2:Nat},CE l b k1->CE l b k2->¬k1<k2:=fun{k1 k2} h1 h2 hlt=>by
  obtain⟨hk1,f1,e1⟩:=h1;obtain⟨hk2,f2,e2⟩:=h2;have hb1:b<k1:=XT (Nat.le_of_lt hk1) (List.mem_of_mem_head? e1);have gone:∀m,k1+1<=m->m<=l.length->b∉AE (l.take m):=by
   intro m;induction m with
   |zero=>intro h;omega
   |succ m ih=>
    intro hm hml;have hmm:m<l.length:=oM;rw[IF hmm];by_cases e:m=k1
    .subst e;rw[if_neg oM,if_pos f1];cases hs:AE (l.take m)with
     |nil=>simp
     |cons b0 S=>
      rw[hs]at e1;simp only[List.head?_cons,Option.some.injEq]at e1;subst e1;exact XV (Nat.le_of_lt hmm) hs
    .have h:=ih oM oM;split
     .intro q;rcases List.mem_cons.1 q with w|w
      .omega
      .exact h w
     .split
      .exact fun q=>h (List.mem_of_mem_tail q)
      .exact h
  exact gone k2 oM oM (List.mem_of_mem_head? e2)
 have a:=Bl h1 h2;have b':=Bl h2 h1;omega
structure Sr where
 nd:Nat->Bool
 todo:List Nat
 sr:Nat->Bool
 ss:Nat->Bool
def need1(q:Sr)(p:Nat):Sr:=if q.nd p=true then q else{q with nd:=fun x=>if x=p then true else q.nd x,todo:=q.todo++[p]}
def needL(q:Sr)(ps:List Nat):Sr:=ps.foldl need1 q
def Lj(l:List Ad)(q:Sr)(p:Nat):Prop:=∀hp:p<l.length,(∀r∈Ae l[p] (A4 l[p].op),q.sr r.toNat=true)/\(l[p].op=32->q.ss l[p].n.toNat=true)/\∀b,(OY l p).head?=some b->q.nd b=true
structure SI(l:List Ad)(q:Sr)(X:List Nat):Prop where
 snd:∀p,q.nd p=true->p<l.length/\Nd l p
 tod:∀p∈q.todo,q.nd p=true
 don:∀p,q.nd p=true->p∉q.todo->p∉X->Lj l q p
 sr:∀r,q.sr r=true->∀j (hj:j<l.length),Af l[j]=true->l[j].d.toNat=r->q.nd j=true
 ss:∀n,q.ss n=true->∀j (hj:j<l.length),l[j].op=33->l[j].n.toNat=n->q.nd j=true
section
variable {l : List Ad} {q : Sr} {X : List Nat}
theorem Ee(q:Sr)(p x:Nat):(need1 q p).nd x=true↔q.nd x=true\/x=p:=by
 unfold need1;split
 .rename_i h;exact⟨.inl,fun w=>w.elim id (fun e=>e▸h)⟩
 .simp only;by_cases e:x=p
  .simp[e]
  .simp[e]
theorem IY(q:Sr)(p:Nat):(need1 q p).sr=q.sr/\(need1 q p).ss=q.ss:=by unfold need1;split<;>exact⟨rfl,rfl⟩
theorem Lj.mono{q q':Sr}{p:Nat}(h:Lj l q p)(h1:∀x,q.nd x=true->q'.nd x=true)(h2:∀x,q.sr x=true->q'.sr x=true)(h3:∀x,q.ss x=true->q'.ss x=true):Lj l q' p:=fun hp=>
 ⟨fun r hr=>h2 _ ((h hp).1 r hr),fun o=>h3 _ ((h hp).2.1 o),fun b hb=>h1 _ ((h hp).2.2 b hb)⟩
theorem SI.need1(h:SI l q X){p:Nat}(hp:p<l.length)(hn:Nd l p):SI l (need1 q p) X:=by
 obtain⟨k1,k2⟩:=IY q p;have up:∀x,q.nd x=true->(Go.Proofs.YtnbccaicijcklaaGreat.need1 q p).nd x=true:=fun x hx=>(Ee q p x).2 (.inl hx);refine⟨fun x hx=>?_,fun x hx=>?_,fun x hx ht hX=>?_,fun r hr j hj hs e=>up _ (h.sr r (by rw[k1]at hr;exact hr) j hj hs e),fun n hr j hj hs e=>up _ (h.ss n (by rw[k2]at hr;exact hr) j hj hs e)⟩
 .rcases(Ee q p x).1 hx with w|w
  .exact h.snd x w
  .rw[w];exact⟨hp,hn⟩
 .unfold Go.Proofs.YtnbccaicijcklaaGreat.need1 at hx;split at hx
  .exact up x (h.tod x hx)
  .simp only at hx;rcases List.mem_append.1 hx with w|w
   .exact up x (h.tod x w)
   .simp only[List.mem_singleton]at w;exact(Ee q p x).2 (.inr w)
 .have hx0:q.nd x=true/\x∉q.todo:=by
   unfold Go.Proofs.YtnbccaicijcklaaGreat.need1 at ht;split at ht
   .rename_i w;rcases(Ee q p x).1 hx with e|e
    .exact⟨e,ht⟩
    .exact⟨e▸w,ht⟩
   .simp only[List.mem_append,List.mem_singleton,not_or]at ht;rcases(Ee q p x).1 hx with e|e
    .exact⟨e,ht.1⟩
    .exact absurd e ht.2
  exact(h.don x hx0.1 hx0.2 hX).mono up (fun r hr=>by rw[k1];exact hr) (fun r hr=>by rw[k2];exact hr)
theorem Hh:∀ (ps:List Nat) {q:Sr},SI l q X->(∀p∈ps,p<l.length/\Nd l p)->SI l (needL q ps) X
 |[],q,h,_=>h
 |p::ps,q,h,hp=>Hh ps (h.need1 (hp p sM).1 (hp p sM).2) (fun x hx=>hp x (by simp[hx]))
theorem D9:∀ (ps:List Nat) (q:Sr) (x:Nat),(needL q ps).nd x=true↔q.nd x=true\/x∈ps
 |[],q,x=>by simp[needL]
 |p::ps,q,x=>by
  show(needL (need1 q p) ps).nd x=true↔_;rw[D9 ps,Ee];simp only[List.mem_cons];constructor
  .rintro((h|h)|h)
   .exact .inl h
   .exact .inr (.inl h)
   .exact .inr (.inr h)
  .rintro(h|h|h)
   .exact .inl (.inl h)
   .exact .inl (.inr h)
   .exact .inr h
theorem D2:∀ (ps:List Nat) (q:Sr),(needL q ps).sr=q.sr/\(needL q ps).ss=q.ss
 |[],q=>⟨rfl,rfl⟩
 |p::ps,q=>by
  obtain⟨h1,h2⟩:=D2 ps (need1 q p);obtain⟨h3,h4⟩:=IY q p;exact⟨h1.trans h3,h2.trans h4⟩
def Em(l:List Ad)(q:Sr):Prop:=∀b k,CE l b k->q.nd b=q.nd k
theorem DF{b k:Nat}(h:CE l b k):∃hb:b<l.length,∃hk:k<l.length,(l[b].op=34\/l[b].op=36)/\(l[k].op=35\/l[k].op=37):=by
 obtain⟨hk,f,e⟩:=h;obtain⟨hb,-,o⟩:=DX l k (Nat.le_of_lt hk) b (List.mem_of_mem_head? e);exact⟨hb,hk,o,f⟩
theorem Em.other(h:Em l q){ps:List Nat}(hp:∀p∈ps,∃hp:p<l.length,l[p].op<34):Em l (needL q ps):=fun b k hm=>by
 obtain⟨hb,hk,o1,o2⟩:=DF hm;have e1:b∉ps:=fun w=>by obtain⟨_,o⟩:=hp b w;omega
 have e2:k∉ps:=fun w=>by obtain⟨_,o⟩:=hp k w;omega
 have e3:=h b k hm;rw[Bool.eq_iff_iff,D9,D9];simp only[e1,e2,or_false];rw[e3]
theorem Em.both(h:Em l q){b e:Nat}(hm:CE l b e):Em l (needL q [b,e]):=fun b' k' hm'=>by
 have e3:=h b' k' hm';rw[Bool.eq_iff_iff,D9,D9,e3];simp only[List.mem_cons,List.not_mem_nil,or_false];obtain⟨hb,hk,o1,o2⟩:=DF hm;obtain⟨hb',hk',o1',o2'⟩:=DF hm';have n1:b'≠e:=fun w=>by subst w;omega
 have n2:k'≠b:=fun w=>by subst w;omega
 have i1:b'=b↔k'=e:=by
  constructor
  .intro w;subst w;exact Ij hm' hm
  .intro w;subst w;obtain⟨_,_,x1⟩:=hm;obtain⟨_,_,x2⟩:=hm';rw[x1]at x2;simpa using x2.symm
 constructor
 .rintro(w|w|w)
  .exact .inl w
  .exact .inr (.inr (i1.1 w))
  .exact absurd w n1
 .rintro(w|w|w)
  .exact .inl w
  .exact absurd w n2
  .exact .inr (.inl (i1.2 w))
theorem QB(h:SI l q [])(ht:q.todo=[])(hpar:Em l q)(ho:∀k (hk:k<l.length),l[k].op=31->q.nd k=true){p:Nat}(n:Nd l p):q.nd p=true:=by
 have dn:∀p,q.nd p=true->Lj l q p:=fun p hp=>h.don p hp (by rw[ht];simp) sM;have anc:∀ (N k:Nat),k<l.length->(OY l k).length<=N->q.nd k=true->∀b∈OY l k,q.nd b=true:=by
  intro N;induction N with
  |zero=>
   intro k hk hl _ b hb;have:OY l k=[]:=List.eq_nil_of_length_eq_zero oM;rw[this]at hb;cases hb
  |succ N ih=>
   intro k hk hl hn b hb;cases hs:OY l k with
   |nil=>rw[hs]at hb;cases hb
   |cons b0 S=>
    have h0:=(dn k hn hk).2.2 b0 (by rw[hs];rfl);rw[hs]at hb;rcases List.mem_cons.1 hb with e|e
    .rw[e];exact h0
    .have hmem:b0∈AE (l.take k)/\AE (l.take b0)=S:=by
      rw[F8 hk]at hs;split at hs
      .cases hq:AE (l.take k)with
       |nil=>rw[hq]at hs;cases hs
       |cons x Y=>
        rw[hq]at hs;simp only[List.tail_cons]at hs;subst hs;obtain⟨g1,g2⟩:=Ge k (Nat.le_of_lt hk) x _ hq;exact⟨sM,(Ge x oM b0 S g2).2⟩
      .exact⟨by rw[hs];simp,(Ge k (Nat.le_of_lt hk) b0 S hs).2⟩
     obtain⟨hb0,-,o0⟩:=DX l k (Nat.le_of_lt hk) b0 hmem.1;have e0:OY l b0=S:=by rw[F8 hb0,if_neg oM];exact hmem.2
     exact ih b0 hb0 (by rw[e0];rw[hs]at hl;simpa using hl) h0 b (by rw[e0];exact e)
 induction n with
 |out hk o=>exact ho _ hk o
 |set hk hj n r hr hs e ih=>exact h.sr _ ((dn _ ih hk).1 r hr) _ hj hs e
 |store hk hj n o1 o2 e ih=>exact h.ss _ ((dn _ ih hk).2.1 o1) _ hj o2 (by rw[e])
 |@beg k b hk n hb ih=>exact anc _ k hk (gF _) ih b (by rw[F8 hk];exact hb)
 |@fin k b hk n hf hb ih=>rw[<-hpar b k ⟨hk,hf,hb⟩];exact ih
 |@begE k b hk n hf hb ih=>rw[hpar b k ⟨hk,hf,hb⟩];exact ih
theorem Ua(h:SI l q [])(ht:q.todo=[])(hpar:Em l q)(ho:∀k (hk:k<l.length),l[k].op=31->q.nd k=true)(p:Nat):q.nd p=ndK l p:=by
 rw[Bool.eq_iff_iff,BF];exact⟨fun w=>(h.snd p w).2,fun n=>QB h ht hpar ho n⟩
end
theorem Xf:∀n:Nat,n<38->1<=n->(A4 (n:Int)).d=0->(A4 (n:Int)).a=0->35<=n:=dE
theorem row_bc:∀n:Nat,n<38->((A4 (n:Int)).a=0->(A4 (n:Int)).b=0/\(A4 (n:Int)).c=0)/\((A4 (n:Int)).n=10->n=32\/n=33):=dE
theorem EY{op:Int}(h:Al op=true):∃n:Nat,op=(n:Int)/\1<=n/\n<38:=by
 unfold Al at h;simp only[Bool.and_eq_true,decide_eq_true_eq]at h;exact⟨op.toNat,oM,oM,oM⟩
section
variable {c : Cd}
theorem TG(h:AR c ⟨[],[]⟩ c.list=true){k:Nat}(hk:k<c.list.length){r:Int}(hr:r∈Ae c.list[k] (A4 c.list[k].op)):∃j,∃hj:j<c.list.length,Af c.list[j]=true/\c.list[j].d.toNat=r.toNat:=by
 obtain⟨-,-,-,t4⟩:=Ao (Ck h hk);unfold EQ at t4;rw[List.all_eq_true]at t4;have h4:r.toNat∈(CY ⟨[],[]⟩ (c.list.take k)).set:=by simpa using t4 r hr
 rcases Sj _ _ _ h4 with e|⟨i,hi,h1,h2⟩
 .cases e
 .obtain⟨j,hj,rfl⟩:=List.mem_iff_getElem.1 (List.mem_of_mem_take hi);exact⟨j,hj,h1,h2⟩
theorem Gx(h:AR c ⟨[],[]⟩ c.list=true){k:Nat}(hk:k<c.list.length)(n:Nd c.list k){r:Int}(hr:r∈Ae c.list[k] (A4 c.list[k].op)):usR c.list r.toNat=true:=by
 obtain⟨j,hj,h1,h2⟩:=TG h hk hr;exact CA.2 ⟨j,hj,.set hk hj n r hr h1 h2,h1,h2⟩
theorem used_lt(h:AR c ⟨[],[]⟩ c.list=true){r:Nat}(hr:usR c.list r=true):r<c.regs.length:=by
 obtain⟨k,hk,-,hs,e⟩:=CA.1 hr;have:=GV (Ck h hk) hs;omega
theorem N6(h:AR c ⟨[],[]⟩ c.list=true){r:Nat}(hr:usR c.list r=true):AA (usR c.list) r<(AU (usR c.list) c.regs).length/\Aa (AU (usR c.list) c.regs) ((AA (usR c.list) r:Nat):Int)=Aa c.regs (r:Int):=by
 have hl:=used_lt h hr;have hp:=MX (l:=c.regs) hl hr;rw[gB hl]at hp;obtain⟨h1,h2⟩:=List.getElem?_eq_some_iff.1 hp;refine⟨h1,?_⟩;unfold Aa;rw[if_pos (BU.2 ⟨oM,oM⟩),if_pos (BU.2 ⟨oM,oM⟩),Int.toNat_natCast,Int.toNat_natCast,hp,gB hl]
theorem Hs{n:Nat}(hn:n<c.slots.length)(hw:usS c.list n=true):AA (usS c.list) n<(AU (usS c.list) c.slots).length/\(AU (usS c.list) c.slots)[AA (usS c.list) n]? =c.slots[n]? :=by
 have hp:=MX (l:=c.slots) hn hw;refine⟨?_,hp⟩;rw[gB hn]at hp;exact(List.getElem?_eq_some_iff.1 hp).1
theorem Ol(h:AR c ⟨[],[]⟩ c.list=true){k:Nat}(hk:k<c.list.length)(n:Nd c.list k)(ho:c.list[k].op<35):AC (pruneC c).regs (CV (AA (usR c.list)) (AA (usS c.list)) c.list[k]) (A4 c.list[k].op)=AC c.regs c.list[k] (A4 c.list[k].op):=by
 have t:=Ck h hk;obtain⟨t1,t2,-,-⟩:=Ao t;unfold AC ED CV pruneC;simp only;by_cases hd:(A4 c.list[k].op).d=0
 .rw[if_pos hd,if_pos hd];by_cases ha:(A4 c.list[k].op).a=0
  .exfalso;obtain⟨m,e,m1,m2⟩:=EY t1;rw[e]at hd ha ho;have:=Xf m m2 m1 hd ha;omega
  .rw[if_neg ha];have h0:=(Ag (BD t2) ha).1;rw[(N6 h (Gx h hk n (r:=c.list[k].a) (by unfold Ae;rw[if_neg ha];simp))).2,Int.toNat_of_nonneg h0]
 .rw[if_neg hd,if_neg hd,if_neg hd];have hs:Af c.list[k]=true:=by unfold Af;simpa using hd
  have h0:=(GV t hs).1;rw[(N6 h (CA.2 ⟨k,hk,n,hs,rfl⟩)).2,Int.toNat_of_nonneg h0]
theorem Wx(h:AR c ⟨[],[]⟩ c.list=true){k:Nat}(hk:k<c.list.length)(n:Nd c.list k)(hf:AS c c.list[k] (A4 c.list[k].op)=true):AS (pruneC c) (CV (AA (usR c.list)) (AA (usS c.list)) c.list[k]) (A4 c.list[k].op)=true:=by
 have t:=Ck h hk;obtain⟨t1,-,-,-⟩:=Ao t;obtain⟨m,em,m1,m2⟩:=EY t1;have reg:∀ (l x:Int) (M M':Ty),Ah c.regs l x M=true->(l≠0->usR c.list x.toNat=true)->(c.list[k].op<35->M'=M)->(35<=c.list[k].op->l=0)->Ah (AU (usR c.list) c.regs) l (if l=0 then x else((AA (usR c.list) x.toNat:Nat):Int)) M'=true:=fun l x M M' hx hu hM h0=>by
  by_cases hl:l=0
  .rw[if_pos hl];unfold Ah at hx |-;rw[if_pos hl]at hx |-;exact hx
  .rw[if_neg hl];have ho:c.list[k].op<35:=by
    by_cases q:c.list[k].op<35
    .exact q
    .exact absurd (h0 oM) hl
   obtain⟨x0,x1⟩:=Ag hx hl;obtain⟨r1,r2⟩:=N6 h (hu hl);unfold Ah at hx |-;rw[if_neg hl]at hx |-;simp only[Bool.and_eq_true]at hx |-;rw[r2,Int.toNat_of_nonneg x0,hM ho];exact⟨BU.2 ⟨oM,oM⟩,hx.2⟩
 have hmain:=Ol h hk n;have h35:35<=c.list[k].op->(A4 c.list[k].op).d=0/\(A4 c.list[k].op).a=0/\(A4 c.list[k].op).b=0/\(A4 c.list[k].op).c=0/\(A4 c.list[k].op).n≠9/\(A4 c.list[k].op).n≠10:=fun q=>by
  rcases(show c.list[k].op=35\/c.list[k].op=36\/c.list[k].op=37 by omega)with e|e|e<;>(rw[e];decide)
 have hrd:∀x,x∈Ae c.list[k] (A4 c.list[k].op)->usR c.list x.toNat=true:=fun x hx=>Gx h hk n hx;have hfa:=BD hf;have hfb:=CP hf;have hfc:=CQ hf;have hfd:=Cw hf;unfold AS at hf |-;simp only[Bool.and_eq_true]at hf |-;refine⟨reg _ _ _ _ hfd (fun q=>CA.2 ⟨k,hk,n,by unfold Af;simpa using q,rfl⟩) (fun o=>hmain o) (fun q=>(h35 q).1),reg _ _ _ _ hfa (fun q=>hrd _ Zgk) (fun o=>hmain o) (fun q=>(h35 q).2.1),reg _ _ _ _ hfb (fun q=>hrd _ Zgk) (fun o=>hmain o) (fun q=>(h35 q).2.2.1),reg _ _ _ _ hfc (fun q=>hrd _ Zgk) (fun o=>hmain o) (fun q=>(h35 q).2.2.2.1),?_⟩;have hr:=hf.2.2.2.2;unfold Bh at hr |-;have hn10:(A4 c.list[k].op).n=10->c.list[k].op=32\/c.list[k].op=33:=fun q=>by
  rw[em]at q |-;have:=(row_bc m m2).2 q;omega
 have hnn:(A4 c.list[k].op).n≠10->(CV (AA (usR c.list)) (AA (usS c.list)) c.list[k]).n=c.list[k].n:=fun q=>by
  unfold CV;simp only;rw[if_neg (fun w=>q (by rcases w with w|w<;>(rw[w];decide)))]
 by_cases h7:(A4 c.list[k].op).n=7
 .rw[if_pos h7]at hr |-;rw[hnn oM];exact hr
 .rw[if_neg h7]at hr |-;simp only[Bool.and_eq_true]at hr |-;refine⟨hr.1,?_⟩;have h2:=hr.2;unfold EW at h2 |-;by_cases h8:(A4 c.list[k].op).n=8
  .rw[if_pos h8]at h2 |-;rw[hnn oM];exact h2
  .rw[if_neg h8]at h2 |-;by_cases h9:(A4 c.list[k].op).n=9
   .rw[if_pos h9]at h2 |-;have ho:c.list[k].op<35:=by
     by_cases q:c.list[k].op<35
     .exact q
     .exact absurd h9 (h35 oM).2.2.2.2.1
    rw[hnn oM,hmain ho];exact h2
   .rw[if_neg h9]at h2 |-;by_cases h10:(A4 c.list[k].op).n=10
    .rw[if_pos h10]at h2 |-;have ho:c.list[k].op<35:=by rcases hn10 h10 with q|q<;>omega
     obtain⟨n0,n1⟩:=Gv t (hn10 h10);have hw:usS c.list c.list[k].n.toNat=true:=EJ.2 ⟨k,hk,n,hn10 h10,rfl⟩;obtain⟨s1,s2⟩:=Hs (c:=c) (n:=c.list[k].n.toNat) oM hw;have en:(CV (AA (usR c.list)) (AA (usS c.list)) c.list[k]).n=((AA (usS c.list) c.list[k].n.toNat:Nat):Int):=by unfold CV;simp only;rw[if_pos (hn10 h10)]
     rw[en,hmain ho];simp only[Bool.and_eq_true]at h2 |-;refine⟨BU.2 ⟨oM,by show _<((AU (usS c.list) c.slots).length:Int);omega⟩,?_⟩;have e2:Cv (pruneC c).slots ((AA (usS c.list) c.list[k].n.toNat:Nat):Int)=Cv c.slots c.list[k].n:=by
      unfold Cv;rw[Int.toNat_natCast];show(((AU (usS c.list) c.slots)[_]?).map _).getD _=_;rw[s2]
     rw[e2];exact h2.2
    .rw[if_neg h10]at h2 |-;rw[hnn h10];exact h2
theorem Is(h:AR c ⟨[],[]⟩ c.list=true):Yk c (pruneC c) (ndK c.list) (usR c.list) (CV (AA (usR c.list)) (AA (usS c.list))) (AA (usR c.list)):=by
 refine⟨fun k hk hs=>?_,fun k hk hK r hr _=>Gx h hk (BF.1 hK) hr,fun k hk hK b hb=>BF.2 (.beg hk (BF.1 hK) hb),fun k hk hf b hb=>?_,fun r s hr hs e=>Mp hr hs e,fun i=>rfl,fun i o=>?_,fun k hk hK hf=>Wx h hk (BF.1 hK) hf,fun k hk hK ho hf=>Ol h hk (BF.1 hK) ho,fun i=>?_,fun i hs=>?_⟩
 .by_cases q:Nd c.list k
  .rw[BF.2 q];exact CA.2 ⟨k,hk,q,hs,rfl⟩
  .rw[Jm.2 q];cases hu:usR c.list c.list[k].d.toNat with
   |false=>rfl
   |true=>
    obtain⟨j,hj,hn,hsj,e⟩:=CA.1 hu;exact absurd (hn.setter hj hsj k hk hs e.symm) q
 .by_cases q:Nd c.list k
  .rw[BF.2 q,BF.2 (.begE hk q hf hb)]
  .rw[Jm.2 q,Jm.2 (fun w=>q (.fin hk w hf hb))]
 .unfold CV;simp only;rw[if_neg oM]
 .unfold Ae CV;simp only[List.map_append];congr 1
  .split<;>simp_all
  .congr 1<;>(split<;>simp_all)
 .unfold CV;simp only;have hd:(A4 i.op).d≠0:=by unfold Af at hs;simpa using hs
  rw[if_neg hd,Int.toNat_natCast]
theorem Qi(h:AR c ⟨[],[]⟩ c.list=true):Sv c (pruneC c) (ndK c.list) (usR c.list) (usS c.list) (CV (AA (usR c.list)) (AA (usS c.list))) (AA (usR c.list)) (AA (usS c.list)):=by
 refine⟨rfl,fun r hr=>(N6 h hr).2,fun i q=>?_,fun i q=>?_,fun i q=>?_,fun i q=>?_,fun i q1 q2=>?_,fun i q=>?_,fun i=>rfl,fun k hk o=>BF.2 (.out hk o),fun k hk hK o=>EJ.2 ⟨k,hk,BF.1 hK,o,rfl⟩,fun k hk hK o=>?_,fun m n hm hn e=>Mp hm hn e,fun n hn hl=>(Hs hl hn).1⟩
 .unfold CV;simp only;rw[if_neg q]
 .unfold CV;simp only;rw[if_neg q]
 .unfold CV;simp only;rw[if_neg q]
 .unfold CV;simp only;rw[if_neg q]
 .unfold CV;simp only;rw[if_neg oM]
 .unfold CV;simp only;rw[if_pos q]
 .cases hu:usS c.list c.list[k].n.toNat with
  |false=>rfl
  |true=>
   exfalso;obtain⟨j,hj,hn,oj,e⟩:=EJ.1 hu;have nk:=Gv (Ck h hk) (.inr o);have nj:=Gv (Ck h hj) oj;have ee:c.list[k].n=c.list[j].n:=oM;refine Jm.1 hK ?_;rcases oj with q|q
   .exact .store hj hk hn q o ee
   .obtain⟨m,hm,n1,o1,e1⟩:=hn.stored hj q;exact .store hm hk n1 o1 o (ee.trans e1)
theorem G8(hc:(Ai c).1=0):(Ai (pruneC c)).1=0:=by
 obtain⟨h1,h2,h3⟩:=Bi.1 hc;obtain⟨hg,-⟩:=Ez hc;obtain⟨w1,w2⟩:=Kg (Is h2) h2 c.list.length (gF _);refine Bi.2 ⟨?_,w1,?_⟩
 .have hl:(pruneC c).list.length<=c.list.length:=G7 _ _ _ _;have hr:(pruneC c).regs.length<=c.regs.length:=Hn _ _;have hs:(pruneC c).slots.length<=c.slots.length:=Hn _ _;have g1:=hg.regsL;have g2:=hg.listL;have g3:=hg.slotsL;have e0:B0 c.sign=0:=by
   unfold CF at h1;by_cases q:B0 c.sign=0
   .exact q
   .rw[if_pos q]at h1;exact absurd h1 q
  unfold CF;rw[if_neg (show¬B0 (pruneC c).sign≠0 from fun q=>q e0),if_neg oM,if_neg oM,if_pos];simp only[Bool.and_eq_true];refine⟨?_,?_⟩
  .unfold Ax;rw[List.all_eq_true];exact fun t ht=>hg.regs t (Kf ht)
  .unfold BI;rw[List.all_eq_true];exact fun s hs'=>hg.slots s (Kf hs')
 .have ho:=w2.opens;rw[List.take_length]at ho;have hl:=ho.len;rw[List.isEmpty_iff]at h3;rw[h3]at ho hl;have e:AE c.list=[]:=List.eq_nil_of_length_eq_zero hl;rw[e]at ho;show(CY ⟨[],[]⟩ (Bc _ _ c.list c.list.length)).opens.isEmpty=true;rw[List.isEmpty_iff];revert ho;generalize (CY ⟨[],[]⟩ (Bc (ndK c.list) (CV (AA (usR c.list)) (AA (usS c.list))) c.list c.list.length)).opens=o';intro ho;cases ho
  rfl
end
theorem O3{l:List Ad}(he:AE l=[]){b:Nat}:∀m k,m=l.length-k->k<=l.length->b∈AE (l.take k)->∃e,CE l b e:=by
 intro m;induction m with
 |zero=>
  intro k hm hk hb;have:k=l.length:=oM;subst this;rw[List.take_length,he]at hb;cases hb
 |succ m ih=>
  intro k hm hk hb;have hkl:k<l.length:=oM;have hn:=IF hkl;by_cases h1:l[k].op=34\/l[k].op=36
  .rw[if_pos h1]at hn;exact ih (k+1) oM oM (by rw[hn];simp[hb])
  .rw[if_neg h1]at hn;by_cases h2:l[k].op=35\/l[k].op=37
   .rw[if_pos h2]at hn;cases hs:AE (l.take k)with
    |nil=>rw[hs]at hb;cases hb
    |cons b0 S=>
     rw[hs]at hb hn;rcases List.mem_cons.1 hb with e|e
     .exact⟨k,hkl,h2,by rw[hs,e];rfl⟩
     .exact ih (k+1) oM oM (by rw[hn];exact e)
   .rw[if_neg h2]at hn;exact ih (k+1) oM oM (by rw[hn];exact hb)
def I1(l:List Ad)(r:Nat):List Nat:=(List.range l.length).filter fun k=>(l[k]?.map fun i=>Af i&&decide (i.d.toNat=r))==some true
def IG(l:List Ad)(n:Nat):List Nat:=(List.range l.length).filter fun k=>(l[k]?.map fun i=>decide (i.op=33)&&decide (i.n.toNat=n))==some true
theorem I2{l:List Ad}{r k:Nat}:k∈I1 l r↔∃hk:k<l.length,Af l[k]=true/\l[k].d.toNat=r:=by
 unfold I1;exact Zdz
theorem I7{l:List Ad}{r k:Nat}:k∈IG l r↔∃hk:k<l.length,l[k].op=33/\l[k].n.toNat=r:=by
 unfold IG;exact Zdz
noncomputable def enP (l:List Ad) (b:Nat):Nat:=@dite _ (∃e,CE l b e) (Classical.propDecidable _) (fun h=>Classical.choose h) (fun _=>0)
theorem Pu{l:List Ad}{b e:Nat}(h:CE l b e):enP l b=e:=by
 have hx:∃e,CE l b e:=⟨e,h⟩
 unfold enP;rw[dif_pos hx];exact Ij (Classical.choose_spec hx) h
def goR(l:List Ad)(q:Sr)(r:Nat):Sr:={needL q (if q.sr r=true then [] else I1 l r)with sr:=fun x=>if x=r then true else q.sr x}
def goS(l:List Ad)(q:Sr)(n:Nat):Sr:={needL q (if q.ss n=true then [] else IG l n)with ss:=fun x=>if x=n then true else q.ss x}
noncomputable def goA (l:List Ad) (q:Sr) (p:Nat):Sr:=match (OY l p).head? with
 |some b=>needL q [b,enP l b]
 |none=>q
def E9(l:List Ad)(q:Sr)(rs:List Int):Sr:=rs.foldl (fun q r=>goR l q r.toNat) q
noncomputable def goQ (l:List Ad) (q:Sr) (p:Nat) (i:Ad):Sr:=
 let q1:=E9 l q (Ae i (A4 i.op));let q2:=if i.op=32 then goS l q1 i.n.toNat else q1
 goA l q2 p
def Cz(l:List Ad)(q:Sr):Nat:=((List.range l.length).filter fun k=> !(q.nd k)).length+q.todo.length
theorem Vf(f g:Nat->Bool)(p:Nat)(h1:f p=true)(h2:g p=false)(h3:∀x,x≠p->g x=f x):∀n,p<n->((List.range n).filter g).length+1=((List.range n).filter f).length:=by
 intro n;induction n with
 |zero=>intro h;omega
 |succ n ih=>
  intro hn;rw[List.range_succ,List.filter_append,List.filter_append,List.length_append,List.length_append];by_cases e:n=p
  .subst e;have:(List.range n).filter g=(List.range n).filter f:=List.filter_congr (fun x hx=>h3 x (by have:=List.mem_range.1 hx;omega));rw[this];simp[h1,h2]
  .have:=ih oM;simp only[List.filter_cons,List.filter_nil,h3 n e];omega
theorem Kz{l:List Ad}(q:Sr){p:Nat}(hp:p<l.length):Cz l (need1 q p)=Cz l q:=by
 unfold need1;split
 .rfl
 .rename_i h;unfold Cz;simp only[List.length_append,List.length_singleton];have:=Vf (fun k=> !(q.nd k)) (fun k=> !(if k=p then true else q.nd k)) p UQ sM (fun x hx=>by simp[hx]) l.length hp;omega
theorem Fz{l:List Ad}:∀ (ps:List Nat) (q:Sr),(∀p∈ps,p<l.length)->Cz l (needL q ps)=Cz l q
 |[],q,_=>rfl
 |p::ps,q,h=>(Fz ps (need1 q p) (fun x hx=>h x (by simp[hx]))).trans (Kz q (h p sM))
section
variable {l : List Ad} {q : Sr} {X : List Nat}
theorem OH{i:Ad}(h:Af i=true)(hk:Al i.op=true):i.op<34:=by
 obtain⟨n,e,h1,h2⟩:=EY hk;unfold Af at h;rw[e]at h |-;have Bl:∀n:Nat,n<38->decide ((A4 (n:Int)).d≠0)=true->n<34:=dE;have:=Bl n h2 UQ;omega
theorem YZ(h:SI l q X)(hpar:Em l q)(hK:∀i∈l,Al i.op=true)(r:Nat)(hn:∀j∈I1 l r,Nd l j):SI l (goR l q r) X/\Em l (goR l q r)/\Cz l (goR l q r)=Cz l q/\(∀x,q.nd x=true->(goR l q r).nd x=true)/\(∀x,(goR l q r).sr x=true↔q.sr x=true\/x=r)/\(goR l q r).ss=q.ss:=by
 have hps:∀p∈(if q.sr r=true then [] else I1 l r),p∈I1 l r:=fun p hp=>by split at hp<;>simp_all
 have low:∀p∈(if q.sr r=true then [] else I1 l r),∃hp:p<l.length,l[p].op<34:=fun p hp=>by
  obtain⟨h1,h2,-⟩:=I2.1 (hps p hp);exact⟨h1,OH h2 (hK _ (gD h1))⟩
 have h1:=Hh (l:=l) (X:=X) (if q.sr r=true then [] else I1 l r) h (fun p hp=>⟨(low p hp).1,hn p (hps p hp)⟩);obtain⟨k1,k2⟩:=D2 (if q.sr r=true then [] else I1 l r) q;have nd':=D9 (if q.sr r=true then [] else I1 l r) q;have up:∀x,q.nd x=true->(goR l q r).nd x=true:=fun x hx=>(nd' x).2 (.inl hx);have sr':∀x,(goR l q r).sr x=true↔q.sr x=true\/x=r:=fun x=>by
  unfold goR;simp only;by_cases e:x=r<;>simp[e]
 refine⟨⟨h1.snd,h1.tod,fun p a b c=>?_,fun x hx j hj hs e=>?_,h1.ss⟩,hpar.other low,?_,up,sr',k2⟩
 .refine(h1.don p a b c).mono (fun x hx=>hx) (fun x hx=>(sr' x).2 (.inl (by rw[k1]at hx;exact hx))) (fun x hx=>hx)
 .by_cases hr:q.sr r=true
  .have:q.sr x=true:=by
    rcases(sr' x).1 hx with w|w
    .exact w
    .rw[w];exact hr
   exact up j (h.sr x this j hj hs e)
  .rcases(sr' x).1 hx with w|w
   .exact up j (h.sr x w j hj hs e)
   .refine(nd' j).2 (.inr ?_);rw[if_neg hr,<-w];exact I2.2 ⟨hj,hs,e⟩
 .exact Fz (l:=l) _ q (fun p hp=>(low p hp).1)
theorem Z0(h:SI l q X)(hpar:Em l q)(r:Nat)(hn:∀j∈IG l r,Nd l j):SI l (goS l q r) X/\Em l (goS l q r)/\Cz l (goS l q r)=Cz l q/\(∀x,q.nd x=true->(goS l q r).nd x=true)/\(∀x,(goS l q r).ss x=true↔q.ss x=true\/x=r)/\(goS l q r).sr=q.sr:=by
 have hps:∀p∈(if q.ss r=true then [] else IG l r),p∈IG l r:=fun p hp=>by split at hp<;>simp_all
 have low:∀p∈(if q.ss r=true then [] else IG l r),∃hp:p<l.length,l[p].op<34:=fun p hp=>by
  obtain⟨h1,h2,-⟩:=I7.1 (hps p hp);exact⟨h1,oM⟩
 have h1:=Hh (l:=l) (X:=X) (if q.ss r=true then [] else IG l r) h (fun p hp=>⟨(low p hp).1,hn p (hps p hp)⟩);obtain⟨k1,k2⟩:=D2 (if q.ss r=true then [] else IG l r) q;have nd':=D9 (if q.ss r=true then [] else IG l r) q;have up:∀x,q.nd x=true->(goS l q r).nd x=true:=fun x hx=>(nd' x).2 (.inl hx);have ss':∀x,(goS l q r).ss x=true↔q.ss x=true\/x=r:=fun x=>by
  unfold goS;simp only;by_cases e:x=r<;>simp[e]
 refine⟨⟨h1.snd,h1.tod,fun p a b c=>?_,h1.sr,fun x hx j hj hs e=>?_⟩,hpar.other low,?_,up,ss',k1⟩
 .refine(h1.don p a b c).mono (fun x hx=>hx) (fun x hx=>hx) (fun x hx=>(ss' x).2 (.inl (by rw[k2]at hx;exact hx)))
 .by_cases hr:q.ss r=true
  .have:q.ss x=true:=by
    rcases(ss' x).1 hx with w|w
    .exact w
    .rw[w];exact hr
   exact up j (h.ss x this j hj hs e)
  .rcases(ss' x).1 hx with w|w
   .exact up j (h.ss x w j hj hs e)
   .refine(nd' j).2 (.inr ?_);rw[if_neg hr,<-w];exact I7.2 ⟨hj,hs,e⟩
 .exact Fz (l:=l) _ q (fun p hp=>(low p hp).1)
theorem NQ(hK:∀i∈l,Al i.op=true):∀ (rs:List Int) {q:Sr},SI l q X->Em l q->(∀r∈rs,∀j∈I1 l r.toNat,Nd l j)->SI l (E9 l q rs) X/\Em l (E9 l q rs)/\Cz l (E9 l q rs)=Cz l q/\(∀x,q.nd x=true->(E9 l q rs).nd x=true)/\(∀x,q.sr x=true->(E9 l q rs).sr x=true)/\(∀r∈rs,(E9 l q rs).sr r.toNat=true)/\(E9 l q rs).ss=q.ss
 |[],q,h,hp,_=>⟨h,hp,rfl,fun x hx=>hx,fun x hx=>hx,sM,rfl⟩
 |r::rs,q,h,hp,hn=>by
  obtain⟨a1,a2,a3,a4,a5,a6⟩:=YZ h hp hK r.toNat (hn r sM);obtain⟨b1,b2,b3,b4,b5,b6,b7⟩:=NQ hK rs a1 a2 (fun x hx=>hn x (by simp[hx]));refine⟨b1,b2,b3.trans a3,fun x hx=>b4 x (a4 x hx),fun x hx=>b5 x ((a5 x).2 (.inl hx)),fun x hx=>?_,b7.trans a6⟩;rcases List.mem_cons.1 hx with e|e
  .rw[e];exact b5 _ ((a5 _).2 (.inr rfl))
  .exact b6 x e
theorem QT{p:Nat}(hp:p<l.length){b:Nat}(hb:(OY l p).head?=some b):b∈AE (l.take p):=by
 have:=List.mem_of_mem_head? hb;rw[F8 hp]at this;exact Ff hp this
theorem YX(he:AE l=[])(h:SI l q X)(hpar:Em l q){p:Nat}(hp:p<l.length)(np:Nd l p):SI l (goA l q p) X/\Em l (goA l q p)/\Cz l (goA l q p)=Cz l q/\(∀x,q.nd x=true->(goA l q p).nd x=true)/\(goA l q p).sr=q.sr/\(goA l q p).ss=q.ss/\∀b,(OY l p).head?=some b->(goA l q p).nd b=true:=by
 unfold goA;cases hb:(OY l p).head? with
 |none=>exact⟨h,hpar,rfl,fun x hx=>hx,rfl,rfl,sM⟩
 |some b=>
  obtain⟨e,hm⟩:=O3 he (l.length-p) p rfl (Nat.le_of_lt hp) (QT hp hb);simp only[Pu hm];obtain⟨hb',he',-,-⟩:=DF hm;have nb:Nd l b:=.beg hp np (by rw[<-F8 hp];exact List.mem_of_mem_head? hb);have ne:Nd l e:=.fin he' nb hm.2.1 hm.2.2;have all:∀x∈[b,e],x<l.length/\Nd l x:=fun x hx=>by
   simp only[List.mem_cons,List.not_mem_nil,or_false]at hx;rcases hx with w|w<;>subst w
   .exact⟨hb',nb⟩
   .exact⟨he',ne⟩
  obtain⟨k1,k2⟩:=D2 [b,e] q;refine⟨Hh [b,e] h all,hpar.both hm,Fz _ q (fun x hx=>(all x hx).1),fun x hx=>(D9 [b,e] q x).2 (.inl hx),k1,k2,fun b' hb'=>(D9 [b,e] q b').2 (.inr ?_)⟩;simp only[Option.some.injEq]at hb';simp[hb']
theorem YY(he:AE l=[])(hK:∀i∈l,Al i.op=true)(hN:∀j k (hj:j<l.length) (hk:k<l.length),l[j].op=33->l[k].op=32->l[j].n.toNat=l[k].n.toNat->l[j].n=l[k].n){t:List Nat}{p:Nat}(h:SI l q [])(hpar:Em l q)(ht:q.todo=t++[p])(hp:p<l.length):
 SI l (goQ l {q with todo:=t} p l[p]) []/\Em l (goQ l {q with todo:=t} p l[p])/\Cz l (goQ l {q with todo:=t} p l[p])+1=Cz l q/\∀x,q.nd x=true->(goQ l {q with todo:=t} p l[p]).nd x=true:=by
 have np:Nd l p:=(h.snd p (h.tod p (by rw[ht];simp))).2;have h0:SI l {q with todo:=t} [p]:=⟨h.snd,fun x hx=>h.tod x (by rw[ht];simp[hx]),fun x a b c=>h.don x a (by rw[ht];simp only[List.mem_append,not_or];exact⟨b,c⟩) sM,h.sr,h.ss⟩
 have p0:Em l {q with todo:=t}:=hpar;have d0:Cz l {q with todo:=t}+1=Cz l q:=by unfold Cz;rw[ht];simp only[List.length_append,List.length_singleton];omega
 obtain⟨a1,a2,a3,a4,a5,a6,a7⟩:=NQ hK (Ae l[p] (A4 l[p].op)) h0 p0 (fun r hr j hj=>by
  obtain⟨g1,g2,g3⟩:=I2.1 hj
  exact .set hp g1 np r hr g2 g3)
 generalize hq1:E9 l {q with todo:=t} (Ae l[p] (A4 l[p].op))=q1 at a1 a2 a3 a4 a5 a6 a7;obtain⟨q2,hq2,b1,b2,b3,b4,b5,b6⟩:∃q2,q2=(if l[p].op=32 then goS l q1 l[p].n.toNat else q1)/\SI l q2 [p]/\Em l q2/\Cz l q2=Cz l q1/\(∀x,q1.nd x=true->q2.nd x=true)/\q2.sr=q1.sr/\(l[p].op=32->q2.ss l[p].n.toNat=true):=by
  refine⟨_,rfl,?_⟩;by_cases o:l[p].op=32
  .rw[if_pos o];obtain⟨c1,c2,c3,c4,c5,c6⟩:=Z0 a1 a2 l[p].n.toNat (fun j hj=>by
    obtain⟨g1,g2,g3⟩:=I7.1 hj
    exact .store hp g1 np o g2 (hN j p g1 hp g2 o g3))
   exact⟨c1,c2,c3,c4,c6,fun _=>(c5 _).2 (.inr rfl)⟩
  .rw[if_neg o];exact⟨a1,a2,rfl,fun x hx=>hx,rfl,fun w=>absurd w o⟩
 obtain⟨c1,c2,c3,c4,c5,c6,c7⟩:=YX he b1 b2 hp np;have eg:goQ l {q with todo:=t} p l[p]=goA l q2 p:=by
  unfold goQ;simp only[hq1];rw[hq2]
 rw[eg];have hd:Lj l (goA l q2 p) p:=fun _=>⟨fun r hr=>by rw[c5,b5];exact a6 r hr,fun o=>by rw[c6];exact b6 o,c7⟩
 refine⟨⟨c1.snd,c1.tod,fun x a b _=>?_,c1.sr,c1.ss⟩,c2,oM,fun x hx=>c4 x (b4 x (a4 x hx))⟩;by_cases e:x=p
 .subst e;exact hd
 .exact c1.don x a b (by simpa using e)
end
end Go.Proofs.YtnbccaicijcklaaGreat
