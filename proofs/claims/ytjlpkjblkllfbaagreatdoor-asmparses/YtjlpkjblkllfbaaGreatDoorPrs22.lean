import Derived.Test.YtjlpkjblkllfbaaGreatDoorPrs1
import Derived.Test.YtjlpkjblkllfbaaGreatDoorPrs19
import Derived.Test.YtjlpkjblkllfbaaGreatDoorPrs14
import Derived.OrdersHeld
import Derived.Deep.DeepCutAuto
import Derived.Lib.AppendStr
import Derived.Lib.Builder
import Derived.Laws.Externs
import Derived.Lib.MakeNoZero
import Derived.Lib.UnsafeStr
import Derived.Laws.IdiomCopy
import Derived.Test.YtjlpkjblkllfbaaGreatDoorPrs20
import Derived.Test.YtjlpkjblkllfbaaGreatDoorPrs21
import Derived.Test.YtjlpkjblkllfbaaGreatDoorPrs18
import Derived.Test.YtjlpkjblkllfbaaGreatDoorPrs7
namespace Go.Proofs.YtjlpkjblkllfbaaGreatDoor
open Go.RowKit Go.Proofs.Tryz
set_option linter.all false
set_option maxRecDepth 100000
set_option maxHeartbeats 16000000
theorem D6.mono{E E':Nat}{w:World}{u0 u1 u2 u3:Value}{c:Cd}(h:D6 E w u0 u1 u2 u3 c)(hE:E'<=E):D6 E' w u0 u1 u2 u3 c:=⟨C2 h.sign hE,C2 h.regs hE,C2 h.slots hE,C2 h.list hE⟩
theorem D6.putLow{E C:Nat}{w w':World}{u0 u1 u2 u3:Value}{c:Cd}(h:D6 E w u0 u1 u2 u3 c)(p:AA C w w')(hC:C<E):D6 E w' u0 u1 u2 u3 c:=
 ⟨Aa h.sign fun b hb=>p.oth b (by have:=(h.sign.lt b hb).1;omega),Aa h.regs fun b hb=>p.oth b (by have:=(h.regs.lt b hb).1;omega),Aa h.slots fun b hb=>p.oth b (by have:=(h.slots.lt b hb).1;omega),Aa h.list fun b hb=>p.oth b (by have:=(h.list.lt b hb).1;omega)⟩
theorem D6.nil(E:Nat)(w:World):D6 E w (.slice none 0 0) (.slice none 0 0) (.slice none 0 0) (.slice none 0 0) BC:=⟨⟨rfl,.inl ⟨rfl,rfl⟩⟩,⟨rfl,.inl ⟨rfl,rfl⟩⟩,⟨rfl,.inl ⟨rfl,rfl⟩⟩,⟨rfl,.inl ⟨rfl,rfl⟩⟩⟩
theorem D6.cdv{E:Nat}{w:World}{u0 u1 u2 u3:Value}{c:Cd}(h:D6 E w u0 u1 u2 u3 c):DM w u0 u1 u2 u3 c:=⟨Da JV h.sign,Da Nq h.regs,Da No h.slots,Da Mz h.list⟩
def TP(w:World)(r:Cd×Int×Int)(e:Ending)(w':World):Prop:=
 ∃v0 v1 v2 v3:Value,e=.returned (.tuple #[.agg #[v0,v1,v2,v3],.int .i64 r.2.1,.int .i64 r.2.2])/\D6 w.heap.size w' v0 v1 v2 v3 r.1/\Below w.heap.size w w'/\Hm r.1 4194304
theorem EQ(T:ByteArray)(w:World)(hL:BL w):Calls prog 5 #[.string T] w (TP w (BT (bs T))):=by
 have HNO:Hid (∀n,Hm BC n):=fun n=>⟨gJ _,Hm.none.sign,Hm.none.slots,Hm.none.list⟩
 obtain⟨W0,hW0⟩:∃W,w.alloc (.cells #[.slice none 0 0,.slice none 0 0,.slice none 0 0,.slice none 0 0] 27)=W:=⟨_,rfl⟩
 have hb0:Below w.heap.size w W0:=by rw[<-hW0];exact A2 _ _
 obtain⟨X,hX⟩:=gA (w.heap.size)
 have hr0:W0.rowIs X 27 4 (f4 (.slice none 0 0) (.slice none 0 0) (.slice none 0 0) (.slice none 0 0)):=by rw[<-hW0,<-hX];exact Ee _ _ _ _ _ _
 have HWX:=A3 hX;have HB0:=A3 hb0;have HR0:=A3 hr0;have HL0:=A3 (hL.below hb0);by_cases hbig:4194304<T.size
 .have e1:(4194304:Int)<(T.size:Int):=oM;have HP:Hid (BT (bs T)=(BC,2,0)):=by show _=_;unfold BT;rw[if_pos (by rw[A9];exact hbig)]
  obtain⟨x0,x1,x2,x3⟩:=c4 hr0;obtain⟨f0,f1,f2,f3⟩:=z4 hr0;obtain⟨hp1,hp2⟩:=put4 hr0 (.slice none 0 0) (.slice none 0 0) (.slice none 0 0) (.slice none 0 0);obtain⟨W1,hW1⟩:∃W,(((W0.setCell ⟨X,0,none⟩ (.slice none 0 0)).setCell ⟨X,1,none⟩ (.slice none 0 0)).setCell ⟨X,2,none⟩ (.slice none 0 0)).setCell ⟨X,3,none⟩ (.slice none 0 0)=W:=⟨_,rfl⟩
  rw[hW1]at hp1 hp2;obtain⟨y0,y1,y2,y3⟩:=c4 hp1;have HP2:=A3 hp2;rw[HP.out];clear hb0 hr0 hL hbig hp1 hp2;go_enter func5,ntmps5;go_upto_region 1 with fail;try rw[hW0]
  try rw[hX]
  go_upto_region 3 with fail;refine bodyPost_ret Wg rfl ?_;refine⟨_,_,_,_,rfl,D6.nil _ _,?_,HNO.out _⟩;exact HB0.trans (HP2.bel _ (Nat.le_of_eq HWX.out))
 have HTS:Hid (T.size<=4194304):=by show _<=_;omega
 have e1:¬ (4194304:Int)<(T.size:Int):=oM;have HP:Hid (BT (bs T)=E3 (Bv [] (bs T)).2 (Bv [] (bs T)).1):=by show _=_;unfold BT;rw[if_neg (by rw[A9];omega)]
 obtain⟨r,hr⟩:=gA (BT (bs T))
 rw[hr]at HP |-;have HTL:Hid ((bs T).length<=4194304):=by show _<=_;rw[A9];exact HTS.out
 obtain⟨E,hE⟩:=gA (W0.heap.size)
 have HEX:Hid (W0.heap.size=E/\X<E):=⟨hE,by rw[<-hE];exact hr0.lt⟩
 have hnr:=PP W0;rw[hE]at hnr;have HNR:=A3 hnr;have HLW:Hid (BF E W0):=by show BF E W0;rw[<-hE];exact BF.start HL0.out
 clear hb0 hr0 hL hbig hr hE hnr;go_enter func5,ntmps5;go_upto_region 1 with fail;try rw[hW0]
 try rw[hX]
 clear hW0 hX;go_upto_if 16 with(first
  |(go_at_call 9;(with_reducible refine HNR.out.mono ?_);rintro e w1 ⟨B,m0,m1,m2,m3,m4,rfl,h1,b1⟩;have h1':Cq E B m0 m1 m2 m3 m4 w1 BC 0 0 (.slice none 0 0) (.slice none 0 0) (.slice none 0 0) (.slice none 0 0):=h1;have H1:=A3 (And.intro h1' b1);clear h1 h1' b1)
  |(go_at_call 10;(with_reducible refine(NA E B m0 m1 m2 m3 m4 _ _ _ _ T HTS.out w1 (HLW.out.below H1.out.2) H1.out.1).mono ?_);rintro e w2 ⟨ok,c,ln,st,y0,y1,y2,y3,rfl,h2,b2,r2⟩;have H2:=A3 (And.intro h2 (And.intro b2 r2));clear h2 b2 r2))
 have HB2:Hid (Below E W0 w2):=H1.2.trans H2.2.1;have HFIN:Hid (∀w',Below E W0 w'->Below w.heap.size w w'):=fun w' k=>HB0.trans (k.mono Wi);have HFIN2:Hid (∀v w',Below E W0 v->AA X v w'->Below w.heap.size w w'):=fun v w' k p=>(HFIN.out v k).trans (p.bel _ (Nat.le_of_eq HWX.out));cases ok with
 |false=>
  have hrd:r=(BC,250,(ln:Int)):=HP.trans H2.2.2;have HRD:=A3 hrd;have hrx:=HR0.of_block (HB2.block _ HEX.2);have v4:w2.cell? ⟨B,4,none⟩=some (.int .i64 (ln:Int)):=H2.1.row.cell (i:=4) dE;have hxd:=hrx.of_block (w':=w2.drew) rfl;obtain⟨x0,x1,x2,x3⟩:=c4 hrx;obtain⟨f0,f1,f2,f3⟩:=z4 hrx;obtain⟨hp1,hp2⟩:=put4 hxd (.slice none 0 0) (.slice none 0 0) (.slice none 0 0) (.slice none 0 0);obtain⟨hq1,-⟩:=put4 hrx (.slice none 0 0) (.slice none 0 0) (.slice none 0 0) (.slice none 0 0);obtain⟨y0,y1,y2,y3⟩:=c4 hq1;have HP1:=A3 hp1;have HP2:=A3 hp2;have nXB:¬X=B:=by have:=H2.1.le;have:=HEX.2;omega
  have nBX:¬B=X:=by have:=H2.1.le;have:=HEX.2;omega
  clear hrd hrx hxd hp1 hp2 hq1;go_upto_region 5 with fail;refine rG (fun v=>v.cell? ⟨B,4,none⟩=some (.int .i64 (ln:Int))) fun yH=>?_;refine Tc 0 1 2 ?_;refine Tb 3 4 ?_;clear yH;refine Aw 5 fun K hK=>?_;go_simp;refine AT hK fun yH=>?_;clear hK K;refine Tb 6 7 ?_;refine wpAnyH_done kR ?_ _;try go_wp2
  refine bodyPost_ret Wg rfl ?_;rw[HRD.out];refine⟨_,_,_,_,rfl,D6.nil _ _,?_,HNO.out _⟩;exact HFIN2.out _ _ (HB2.trans ((A4 w2).mono (HLW.below HB2.out).le)) HP2.out
 |true=>
  obtain⟨a0,b0,rfl⟩:=Ad H2.1.own.sign;obtain⟨a1,b1,rfl⟩:=Ad H2.1.own.regs;obtain⟨a2,b2,rfl⟩:=Ad H2.1.own.slots;obtain⟨a3,b3,rfl⟩:=Ad H2.1.own.list;have hok:Hm c ln/\ln<=(bs T).length/\r=if(AH c).1≠0 then(BC,160,CU (ln:Int) c (AH c).2)else(c,0,0):=⟨H2.2.2.1,H2.2.2.2.1,HP.trans H2.2.2.2.2⟩
  have HOK:=A3 hok;have hl1:ln<=4194304:=by have:=HTL.out;omega
  have hl2:=hok.1.len;obtain⟨v0,v1,v2,v3,-⟩:=Yj H2.1.row;have KC:=I0 _ _ _ _ c (hok.1.cd oM) w2 H2.1.own.cdv;obtain⟨e,he⟩:=gA ((AH c).1)
  obtain⟨p,hp⟩:∃e,(AH c).2=e:=⟨_,rfl⟩
  rw[he,hp]at KC;have HKC:=A3 KC;have HEP:=A3 (And.intro he hp);have KLL:=A3 (fun v (k:Below w2.heap.size w2 v)=>Jy E B m0 m1 m2 m3 m4 c ln st _ _ _ _ p v (H2.1.below k) hl1 oM);clear hok hl1 hl2 KC he hp;by_cases q:e=0
  .subst q;have HRD:Hid (r=(c,0,0)):=by show r=_;rw[HOK.2.2,if_neg (by rw[HEP.1];exact fun h=>h rfl)]
   go_upto_region 9 with(go_at_call 11;(with_reducible refine HKC.out.mono ?_);rintro e9 w3 ⟨rfl,hb3⟩;have HB3:=A3 hb3;clear hb3 v0 v1 v2 v3)
   have h3:=H2.1.below HB3.out;obtain⟨v0,v1,v2,v3,-⟩:=Yj h3.row;have HBZ:Hid (Below E W0 w3):=HB2.trans (HB3.mono (HLW.below HB2.out).le);have hrx:=HR0.of_block (HBZ.block _ HEX.2);obtain⟨x0,x1,x2,x3⟩:=c4 hrx;obtain⟨f0,f1,f2,f3⟩:=z4 hrx;obtain⟨hp1,hp2⟩:=put4 hrx (.slice a0 c.sign.length b0) (.slice a1 c.regs.length b1) (.slice a2 c.slots.length b2) (.slice a3 c.list.length b3);obtain⟨z0,z1,z2,z3⟩:=c4 hp1;have HP2:=A3 hp2;have H3:=A3 h3;clear h3 hrx hp1 hp2;go_wp2;refine bodyPost_ret Wg rfl ?_;rw[HRD.out];refine⟨_,_,_,_,rfl,?_,?_,?_⟩
   .exact(H3.own.putLow HP2.out HEX.2).mono Wi
   .exact HFIN2.out _ _ HBZ.out HP2.out
   .exact⟨by show c.sign.length+c.regs.length+c.slots.length+c.list.length<=4194304;have:=HOK.1.len;have:=HTL.out;have:=HOK.2.1;omega,HOK.1.sign,HOK.1.slots,HOK.1.list⟩
  .have HRD:Hid (r=(BC,160,CU (ln:Int) c p)):=by show r=_;rw[HOK.2.2,if_pos (by rw[HEP.1];exact q),HEP.2]
   have e2:(e != 0)=true:=by simpa using q
   have e3:(e==0)=false:=by simpa using q
   clear q;go_upto_region 8 with(go_at_call 11;(with_reducible refine HKC.out.mono ?_);rintro e9 w3 ⟨rfl,hb3⟩;have HB3:=A3 hb3;clear hb3 v0 v1 v2 v3)
   have HBZ:Hid (Below E W0 w3):=HB2.out.trans (HB3.out.mono (HLW.out.below HB2.out).le);have hrx:=HR0.out.of_block (HBZ.out.block _ HEX.out.2);obtain⟨x0,x1,x2,x3⟩:=c4 hrx;obtain⟨f0,f1,f2,f3⟩:=z4 hrx;obtain⟨hp1,hp2⟩:=put4 hrx (.slice none 0 0) (.slice none 0 0) (.slice none 0 0) (.slice none 0 0);obtain⟨z0,z1,z2,z3⟩:=c4 hp1;have HP2:=A3 hp2;clear hrx hp1 hp2;go_wp2_with(go_at_call 12;(with_reducible refine(KLL.out _ HB3.out).mono ?_);rintro e9 w7 ⟨rfl,hw7⟩;have hw8:=hw7.symm;subst hw8);refine bodyPost_ret Wg rfl ?_;rw[HRD.out];refine⟨_,_,_,_,rfl,D6.nil _ _,?_,HNO.out _⟩;exact HFIN2.out _ _ HBZ.out HP2.out
theorem Jm:∃j,prog.info? 126=some j/\j.size=2:=by
 obtain⟨j,hj,h2⟩:=Option.map_eq_some_iff.1 (show(prog.info? 126).map (·.size)=some 2 by kernel_rfl);exact⟨j,hj,h2⟩
theorem If:(prog.info? 5).map (fun i=>(i.zero,i.size,i.bytes))=some (some (.int .u8 0),1,1):=kR
theorem HY(l m:Bs):Lib.byteCells (l++m)=Lib.byteCells l++Lib.byteCells m:=by simp[Lib.byteCells]
structure EE(E b:Nat)(T:TypeId)(n:Nat)(f:Nat->Value)(p v:Value)(l:Bs)(w:World):Prop where
 le:E<=b
 row:w.rowIs b T (n+2) (fun k=>if k=0 then p else if k=1 then v else f k)
 own:w.ownsRow E 5 1 v l.length (Lib.byteCells l)
 ptr:p=.pointer none\/p=.pointer (some ⟨b,0,none⟩)
structure Nu(T:TypeId)(n:Nat):Prop where
 lies:liesAt prog prog.depth T ((n+2)/prog.cellsOf T) 0 126 1=true
 ne:T≠5
def Cg(b:Nat)(w w':World):Prop:=∀ (g:Nat) (cs:Array Value) (t:TypeId) (fr:Nat×Nat),w.heap[g]? =some (.cells cs t fr)->t≠5->g≠b->w'.heap[g]? =some (.cells cs t fr)
theorem Cg.trans{b:Nat}{w w' w'':World}(h:Cg b w w')(k:Cg b w' w''):Cg b w w'':=fun g cs t fr h1 h2 h3=>k g cs t fr (h g cs t fr h1 h2 h3) h2 h3
theorem Cg.of{b:Nat}{w w':World}(k:Below w.heap.size w w'):Cg b w w':=fun g cs t fr h1 _ _=>by
 have hl:g<w.heap.size:=by
  rcases Nat.lt_or_ge g w.heap.size with c|c
  .exact c
  .rw[Array.getElem?_eq_none c]at h1;exact absurd h1 sM
 exact(k.block g hl).trans h1
theorem Cg.row{b g n:Nat}{w w':World}{t:TypeId}{f:Nat->Value}(k:Cg b w w')(h:w.rowIs g t n f)(ht:t≠5)(hg:g≠b):w'.rowIs g t n f:=by
 obtain⟨cs,h1,h2⟩:=h;exact⟨cs,k g cs t _ h1 ht hg,h2⟩
theorem OB{w:World}{b n:Nat}{t:TypeId}{f:Nat->Value}(h:w.rowIs b t n f):w.shape? b=some (t,n):=by
 obtain⟨cs,h1,h2,-⟩:=h;simp[World.shape?,h1,h2]
theorem U8{E b n:Nat}{T:TypeId}{f:Nat->Value}{p v:Value}{l:Bs}{w:World}(h:EE E b T n f p v l w)(hn:T≠5):EE E b T n f (.pointer (some ⟨b,0,none⟩)) v l (w.setCell ⟨b,0,none⟩ (.pointer (some ⟨b,0,none⟩)))/\AA b w (w.setCell ⟨b,0,none⟩ (.pointer (some ⟨b,0,none⟩))):=by
 have hp:=AA.one b 0 w (.pointer (some ⟨b,0,none⟩));refine⟨⟨h.le,(h.row.set 0 (.pointer (some ⟨b,0,none⟩))).congr fun j hj=>?_,Ao h.own h.row (Ne.symm hn) hp,.inr rfl⟩,hp⟩;by_cases q:j=0
 .simp[q]
 .simp[q]
theorem FC(E b:Nat)(T:TypeId)(n:Nat)(f:Nat->Value)(p v:Value)(l:Bs)(hl:Nu T n)(w:World)(h:EE E b T n f p v l w):
 Calls prog 135 #[.pointer (some ⟨b,0,none⟩)] w fun e w'=>e=.returned (.tuple #[])/\EE E b T n f (.pointer (some ⟨b,0,none⟩)) v l w'/\Below E w w'/\∀g,g≠b->w'.heap[g]? =w.heap[g]? :=by
 obtain⟨j,hj,hj2⟩:=Jm;have HH:=A3 h;have HN:=A3 hl.ne;have h0:w.cell? ⟨b,0,none⟩=some p:=h.row.cell (i:=0) oM;have hfz:=h.row.frozen 0;have hsh:=OB h.row;rcases h.ptr with rfl|rfl
 .have e1:=Lib.run_to_unsafe (P:=prog) w ⟨b,0,none⟩ underlying123 underlying190 hj (by rw[hj2];decide) hsh (by show 0<n+2;omega);have e2:∀v:World,(callFunc 145 #[.pointer (some ⟨b,0,none⟩)]).run prog v=.ok (.value (.pointer (some ⟨b,0,none⟩))) v:=fun v=>by
   rw[run_callFunc_extern func145 kR kR kR (e:=Extern.AbiNoEscape.same) kR,Lib.run_noEscape];rfl
  have e3:=Lib.run_from_unsafe (P:=prog) w ⟨b,0,none⟩ underlying190 underlying123 hj hsh hl.lies;clear h hl;go_enter func135,ntmps135;go_wp2
  go_end0
  obtain⟨k1,k2⟩:=U8 HH.out HN.out;exact⟨rfl,k1,k2.bel E HH.le,fun g hg=>k2.oth g hg⟩
 .have e1:=Lib.run_neq_ptr_same (P:=prog) w ⟨b,0,none⟩ underlying123 hj;clear h hl hsh;go_enter func135,ntmps135;go_wp2
  go_end0
  exact⟨rfl,HH.out,Below.refl _ _,fun _ _=>rfl⟩
theorem Q6{E:Nat}{V:World}{v:Value}{n:Nat}{xs:List Value}(h:V.ownsRow E 5 1 v n xs)(hE:E<=V.heap.size)(s:ByteArray)(hn:n+s.size<=140737488355328)(ty:TypeId):
 ∃v' w',(Builtin.append_ #[124,9] ty #[v,.string s]).run prog V=.ok v' w'/\w'.ownsRow E 5 1 v' (n+s.size) (xs++Lib.strCells s)/\V.grownBy w' v.ownBlock:=by
 obtain⟨i0,hi0,hz0,hz1,hz2⟩:=info_parts If;have hmx:n+s.size<=maxLen:=mL;obtain⟨v',w',hr,ho,hg,hnn⟩:=Lib.run_append_own_string (P:=prog) V E _ _ ty _ i0 underlying124 underlying9 hi0 hz0 hz1 hz2 v n xs h s hmx oM hE;exact⟨v',w',hr,ho,hg⟩
theorem F9{P:Program}{w w':World}{ops:Array Oper}{rest:List Oper}{o:Oper}{a:Act}{Q:Exit->Act->World->Prop}(hgd:o.guard=none)(s x:Operand)(t u:TypeId)
 (ho:o.op=.call {callee:=.builtin .append,args:=#[s,x],argTypes:=#[t,u]}) (v v2 v':Value) (hs:a.eval s=v) (hx:a.eval x=v2) (hr:(Builtin.append_ #[t,u] o.type #[v,v2]).run P w=.ok v' w')
 (h:wpList P ops Q rest (a.put o.dst v') w'):wpList P ops Q (o::rest) a w:=
 wpList_plain hgd fun _ hK=>by
  exact XY
theorem Ot{P:Program}{w w':World}{o:Oper}{a:Act}{K:Act->World->Prop}{Q:Exit->Act->World->Prop}(x:Operand){t:TypeId}
 (ho:o.op=.call {callee:=.builtin .unsafeSliceData,args:=#[x],argTypes:=#[t]}) (v v':Value) (hx:a.eval x=v) (hr:(Builtin.unsafeSliceData_ #[t] o.type #[v]).run P w=.ok v' w')
 (h:K (a.put o.dst v') w') (y':Bool) (hy:y'=true):if y'=true then Oper.wp P o a w K Q else K (a.put o.dst undef) w:=by
 rw[if_pos hy];unfold Oper.wp execOp;simp only[ho,resolve,invoke,builtin,Sem.run_bind,Sem.run_pure,Result.andThen_ok,List.map_toArray,List.map_cons,List.map_nil,hx,hr];exact h
theorem Ou{P:Program}{w w':World}{o:Oper}{a:Act}{K:Act->World->Prop}{Q:Exit->Act->World->Prop}(s x:Operand){t u:TypeId}
 (ho:o.op=.call {callee:=.builtin .unsafeString,args:=#[s,x],argTypes:=#[t,u]}) (v v2 v':Value) (hs:a.eval s=v) (hx:a.eval x=v2) (hr:(Builtin.unsafeString_ #[t,u] o.type #[v,v2]).run P w=.ok v' w')
 (h:K (a.put o.dst v') w') (y':Bool) (hy:y'=true):if y'=true then Oper.wp P o a w K Q else K (a.put o.dst undef) w:=by
 rw[if_pos hy];exact VT
theorem JC(w:World)(p a:Addr)(n:Nat):(w.freeze p n).cell? a=w.cell? a:=by
 unfold World.freeze;split
 .rfl
 .unfold World.cell?;simp only[Array.getElem?_modify];by_cases q:p.block=a.block
  .rw[if_pos q];cases w.heap[a.block]? with
   |none=>rfl
   |some o=>
    cases o with
    |cells c t fr=>cases fr;rfl
    |_=>rfl
  .rw[if_neg q]
theorem U7{E b n:Nat}{T:TypeId}{f:Nat->Value}{v v2:Value}{l l2:Bs}{w w2:World}(h:EE E b T n f (.pointer (some ⟨b,0,none⟩)) v l w)(hn:T≠5)(hg:w.grownBy w2 v.ownBlock)(ho:w2.ownsRow E 5 1 v2 l2.length (Lib.byteCells l2)):
 w2.rowIs b T (n+2) (fun k=>if k=0 then .pointer (some ⟨b,0,none⟩)else if k=1 then v else f k)/\EE E b T n f (.pointer (some ⟨b,0,none⟩)) v2 l2 (w2.setCell ⟨b,1,none⟩ v2)/\Below E w (w2.setCell ⟨b,1,none⟩ v2)/\Cg b w (w2.setCell ⟨b,1,none⟩ v2):=by
 have hb:v.ownBlock≠some b:=AV h.own h.row (Ne.symm hn);have hr:=h.row.of_block (hg.block b h.row.lt (Ne.symm hb));have hp:=AA.one b 1 w2 v2;have hE:E<=w.heap.size:=by have:=h.le;have:=h.row.lt;omega
 refine⟨hr,⟨h.le,(hr.set 1 v2).congr fun j hj=>?_,Ao ho hr (Ne.symm hn) hp,.inr rfl⟩,((Below.refl E w).grown hg hE (fun k hk=>(h.own.lt k hk).1)).trans (hp.bel E h.le),fun g cs t fr h1 h2 h3=>?_⟩
 .by_cases q:j=1
  .simp[q]
  .simp[q]
 .have hgl:g<w.heap.size:=by
   rcases Nat.lt_or_ge g w.heap.size with c|c
   .exact c
   .rw[Array.getElem?_eq_none c]at h1;exact absurd h1 sM
  refine(hp.oth g h3).trans ((hg.block g hgl fun e=>?_).trans h1);rcases h.own.2 with⟨hv,_⟩|⟨g',cap,cur,hv,_,hg',_⟩
  .rw[hv]at e;simp[Value.ownBlock]at e
  .rw[hv]at e;simp[Value.ownBlock]at e;subst e;rw[h1]at hg';simp at hg';exact h2 hg'.2.1
theorem DL(E b:Nat)(T:TypeId)(n:Nat)(f:Nat->Value)(p v:Value)(l:Bs)(hl:Nu T n)(s:ByteArray)(hs:l.length+s.size<=140737488355328)(w:World)(h:EE E b T n f p v l w):
 Calls prog 106 #[.pointer (some ⟨b,0,none⟩),.string s] w fun e w'=>e=.returned (.tuple #[.int .i64 (s.size:Int),.nilIface])/\∃v',EE E b T n f (.pointer (some ⟨b,0,none⟩)) v' (l++bs s) w'/\Below E w w'/\Cg b w w':=by
 have HK:=A3 (FC E b T n f p v l hl w h);have HN:=A3 hl.ne;have HL:=A3 hs;clear h hl hs;go_enter func106,ntmps106;go_upto_region 2 with(go_at_call 135;(with_reducible refine HK.out.mono ?_);rintro e w1 ⟨rfl,h1,b1,k1⟩;have H1:=A3 (And.intro h1 (And.intro b1 k1));clear h1 b1 k1)
 obtain⟨v2,w2,hrun,ho,hg⟩:=Q6 H1.1.own (by have:=H1.1.le;have:=H1.1.row.lt;omega) s HL.out 124;have e1:Lib.byteCells l++Lib.strCells s=Lib.byteCells (l++bs s):=(HY l (bs s)).symm;have e2:l.length+s.size=(l++bs s).length:=by rw[List.length_append,A9]
 rw[e1,e2]at ho;obtain⟨p2,q2,rfl⟩:=Ad ho;obtain⟨r2,g1,g2,g3⟩:=U7 H1.1 HN.out hg ho;obtain⟨N,hN⟩:=gA ((l++bs s).length)
 rw[hN]at hrun g1 g2 g3;have HR:=A3 hrun;have HG:=A3 (And.intro g1 (And.intro g2 g3));have c1:w1.cell? ⟨b,1,none⟩=some v:=H1.1.row.cell (i:=1) oM;have c2:w2.cell? ⟨b,1,none⟩=some v:=r2.cell (i:=1) oM;have f2:=r2.frozen 1;clear hrun ho hg e1 e2 r2 g1 g2 g3 hN;go_wp2_with(at_builtin;refine F9 rF _ _ _ _ rF _ _ _ rF rF HR.out ?_)
 go_ret2
 refine⟨rfl,_,HG.1,H1.2.1.trans HG.2.1,fun g cs t fr a1 a2 a3=>HG.2.2 g cs t fr ((H1.2.2 g a3).trans a1) a2 a3⟩
theorem Ma(E b:Nat)(T:TypeId)(n:Nat)(f:Nat->Value)(p v:Value)(l:Bs)(hl:Nu T n)(hs:l.length+1<=140737488355328)(w:World)(h:EE E b T n f p v l w):
 Calls prog 108 #[.pointer (some ⟨b,0,none⟩),.int .u8 10] w fun e w'=>e=.returned .nilIface/\∃v',EE E b T n f (.pointer (some ⟨b,0,none⟩)) v' (l++[10]) w'/\Below E w w'/\Cg b w w':=by
 have HK:=A3 (FC E b T n f p v l hl w h);have HN:=A3 hl.ne;have HL:=A3 hs;clear h hl hs;go_enter func108,ntmps108;go_upto_region 2 with(go_at_call 135;(with_reducible refine HK.out.mono ?_);rintro e w1 ⟨rfl,h1,b1,k1⟩;have H1:=A3 (And.intro h1 (And.intro b1 k1));clear h1 b1 k1)
 have hE:E<=w1.heap.size:=by have:=H1.1.le;have:=H1.1.row.lt;omega
 obtain⟨p1,q1,rfl⟩:=Ad H1.1.own;obtain⟨g,c',w2,hrun,hb2,ho,hoth⟩:=Ck (t:=124) (e:=5) underlying124 If rF dE H1.1.own hE #[.int .u8 10] rfl OW (by have:=HL.out;unfold maxLen;omega) (by have:=HL.out;omega) 124;have e1:Lib.byteCells l++(#[Value.int .u8 10]:Array Value).toList=Lib.byteCells (l++[10]):=(HY l [10]).symm;have HE2:Hid (l.length+1=(l++[10]:Bs).length):=by show _=_;simp
 rw[e1]at ho;have HO:=A3 ho;have hnb:(Value.slice p1 l.length q1).ownBlock≠some b:=AV H1.1.own H1.1.row (Ne.symm HN.out);have r2:=H1.1.row.of_block (hoth b H1.1.row.lt hnb);have HB:=A3 (And.intro hb2 hoth);have HR:=A3 hrun;have HR2:=A3 r2;have c1:w1.cell? ⟨b,1,none⟩=some (.slice p1 l.length q1):=H1.1.row.cell (i:=1) oM;have c2:w2.cell? ⟨b,1,none⟩=some (.slice p1 l.length q1):=r2.cell (i:=1) oM;have c3':(w1.alloc (.cells #[.int .u8 10] 5)).cell? ⟨b,1,none⟩=some (.slice p1 l.length q1):=kc (A2 _ _) c1;have f2:=r2.frozen 1;clear hrun ho e1 r2 hb2 hoth hnb;go_wp2_with(at_builtin;refine F9 rF _ _ _ _ rF _ _ _ rF rF HR.out ?_;try simp only[Act.put,List.setIfInBounds_toArray,List.set_cons_zero,List.set_cons_succ]);refine bodyPost_ret (by simp[results,results108,go_sem, *];try rfl) rfl ?_;have hp:=AA.one b 1 w2 (.slice (some ⟨g,0,none⟩) (l.length+1) c');refine⟨rfl,_,⟨H1.1.le,(HR2.set 1 _).congr fun j hj=>?_,by rw[<-HE2.out];exact Ao HO.out HR2.out (Ne.symm HN.out) hp,.inr rfl⟩,?_,?_⟩
 .by_cases q:j=1
  .simp[q]
  .simp[q]
 .exact H1.2.1.trans (HB.1.trans (hp.bel E H1.1.le))
 .intro g' cs t fr a1 a2 a3;have a4:=(H1.2.2 g' a3).trans a1;have hgl:g'<w1.heap.size:=by
   rcases Nat.lt_or_ge g' w1.heap.size with c|c
   .exact c
   .rw[Array.getElem?_eq_none c]at a4;exact absurd a4 sM
  refine(hp.oth g' a3).trans ((HB.2 g' hgl fun e=>?_).trans a4);rcases H1.1.own.2 with⟨hv,_⟩|⟨g2,cap,cur,hv,_,hg2,_⟩
  .rw[hv]at e;simp[Value.ownBlock]at e
  .rw[hv]at e;simp[Value.ownBlock]at e;subst e;rw[a4]at hg2;simp at hg2;exact a2 hg2.2.1
theorem Gd(E b:Nat)(T:TypeId)(n:Nat)(f:Nat->Value)(p v:Value)(l:Bs)(h0:l≠[])(w:World)(h:EE E b T n f p v l w):
 Calls prog 73 #[.pointer (some ⟨b,0,none⟩)] w fun e w'=>e=.returned (.string ⟨l.toArray⟩)/\Below E w w':=by
 have hl0:l.length≠0:=by simpa using h0
 have hown:=h.own;obtain⟨g,cap,cur,rfl,hbg,hg,hnc,hcm,hcs,htake⟩:∃g cap cur,v=.slice (some ⟨g,0,none⟩) l.length cap/\E<=g/\w.heap[g]? =some (.cells cur 5 (0,0))/\l.length<=cap/\cap<=maxLen/\cur.size=cap*1/\cur.toList.take (l.length*1)=Lib.byteCells l:=by
  rcases hown.2 with⟨_,hz⟩|⟨g,cap,cur,hv,r⟩
  .exact absurd hz hl0
  .exact⟨g,cap,cur,hv,r⟩
 have c1:w.cell? ⟨b,1,none⟩=some (.slice (some ⟨g,0,none⟩) l.length cap):=h.row.cell (i:=1) oM;have c1':w.drew.cell? ⟨b,1,none⟩=some (.slice (some ⟨g,0,none⟩) l.length cap):=c1;have hSD:(Builtin.unsafeSliceData_ #[124] 167 #[.slice (some ⟨g,0,none⟩) l.length cap]).run prog w.drew=.ok (.pointer (some ⟨g,0,none⟩)) w.drew:=
  Lib.run_unsafeSliceData_row _ _ _ _ _ _ oM
 have hUS:(Builtin.unsafeString_ #[167,3] 9 #[.pointer (some ⟨g,0,none⟩),.int .i64 l.length]).run prog w.drew=.ok (.string ⟨l.toArray⟩) (w.drew.freeze ⟨g,0,none⟩ l.length):=by
  refine Lib.run_unsafeString_row w.drew 167 3 9 5 underlying167 kR g cur.size (by have hg':w.drew.heap[g]? =some (.cells cur 5 (0,0)):=hg;simp[World.shape?,hg']) l h0 oM (by unfold maxLen at hcm;omega) ?_;intro j x hx;exact hown.cells (g:=g) rfl j (.int .u8 x.toNat) (by simp[Lib.byteCells,hx])
 have HBG:=A3 hbg;have HSD:=A3 hSD;have HUS:=A3 hUS;have cz:(w.drew.freeze ⟨g,0,none⟩ l.length).cell? ⟨b,1,none⟩=some (.slice (some ⟨g,0,none⟩) l.length cap):=by rw[JC];exact c1'
 obtain⟨N,hN⟩:=gA (l.length)
 rw[hN]at HSD HUS cz c1 c1';clear h hown hg hnc hcm hcs htake hl0 h0 hbg hSD hUS hN;go_enter func73,ntmps73;go_upto_region 1 with fail;refine rG (fun v=>v.cell? ⟨b,1,none⟩=some (.slice (some ⟨g,0,none⟩) N cap)) fun yH=>?_;refine Tf 0 1 2 3 5 6 ?_;refine Tc 7 8 9 ?_;clear yH;refine Aw 4 fun K hK=>?_;refine Ot _ rF _ _ rF HSD.out ?_ _ rF;refine AT hK fun yH=>?_;clear hK K;clear yH;refine Aw 10 fun K hK=>?_;refine Ou _ _ rF _ _ _ rF rF HUS.out ?_ _ rF;refine AT hK fun yH=>?_;clear hK K;refine Bm 11 ?_;refine wpAnyH_done kR ?_ _;try go_wp2
 refine bodyPost_ret (by simp[results,results73,go_sem, *];try rfl) rfl ?_;exact⟨rfl,Lib.below_freeze (Below.drew (Below.refl E w)) (p:=⟨g,0,none⟩) HBG.out _⟩
theorem LZ:(prog.info? 5).map (·.size)=some 1:=kR
theorem Lh(E b:Nat)(T:TypeId)(n:Nat)(f:Nat->Value)(hT:T≠5)(N:Nat)(hN:N<=281474976710656)(w:World)(h:EE E b T n f (.pointer (some ⟨b,0,none⟩)) (.slice none 0 0) [] w):
 Calls prog 146 #[.pointer (some ⟨b,0,none⟩),.int .i64 N] w fun e w'=>e=.returned (.tuple #[])/\∃v',EE E b T n f (.pointer (some ⟨b,0,none⟩)) v' [] w'/\Below E w w':=by
 obtain⟨cs,hrun,hle,hmax⟩:=Lib.run_makeNoZero (P:=prog) w.drew #[3] 124 5 underlying124 N hN;have hw:IntKind.i64.wrap (IntKind.i64.wrap 0+(N:Int))=N:=by rw[IntKind.wrap_i64,IntKind.wrap_i64];omega
 have hw2:IntKind.i64.wrap (N:Int)=N:=by rw[IntKind.wrap_i64];omega
 have hcall0:(callFunc 153 #[.int .i64 (N:Int)]).run prog w.drew=.ok (.value (.slice (some ⟨w.drew.heap.size,0,none⟩) N cs.size)) (w.drew.drew.drew.alloc (.cells cs 5)):=by
  rw[run_callFunc_extern func153 kR kR kR (e:=Extern.BytealgMakeNoZero.makeNoZero #[3] #[124]) kR,hrun];rfl
 have hcall:(callFunc 153 #[.int .i64 (IntKind.i64.wrap (IntKind.i64.wrap 0+(N:Int)))]).run prog w.drew=.ok (.value (.slice (some ⟨w.drew.heap.size,0,none⟩) N cs.size)) (w.drew.drew.drew.alloc (.cells cs 5)):=by rw[hw];exact hcall0
 have hmx:cs.size<=maxLen:=hmax mL;obtain⟨W,hW⟩:=gA (w.drew.drew.drew.alloc (.cells cs 5))
 have hbl:Below w.heap.size w W:=by rw[<-hW];exact((((Below.refl _ w).drew).drew).drew).trans (show Below w.heap.size w.drew.drew.drew _ from A2 w.drew.drew.drew _)
 have hsz:w.drew.heap.size=w.heap.size:=rfl;rw[hsz]at hcall hcall0;rw[hW]at hcall hcall0;have hb0:b<w.heap.size:=h.row.lt;have hE:E<=w.heap.size:=by have:=h.le;omega
 have hr:=h.row.of_block (hbl.block _ hb0);have c1:w.cell? ⟨b,1,none⟩=some (.slice none 0 0):=h.row.cell (i:=1) oM;have c1':w.drew.cell? ⟨b,1,none⟩=some (.slice none 0 0):=c1;have c2:W.cell? ⟨b,1,none⟩=some (.slice none 0 0):=hr.cell (i:=1) oM;have f2:=hr.frozen 1;have hg:W.heap[w.heap.size]? =some (.cells cs 5 (0,0)):=by rw[<-hW];exact heap_alloc_new _ _
 have hcopy:∀V:World,(Builtin.copy_ #[124,124] 3 #[.slice (some ⟨w.heap.size,0,none⟩) 0 cs.size,.slice none 0 0]).run prog V=.ok (goInt 0) V:=
  fun V=>run_copy_none V 124 124 3 5 _ _ 0 cs.size 0 0 underlying124 LZ rfl
 obtain⟨g,hgg⟩:=gA (w.heap.size)
 rw[hgg]at hg hcopy hcall hcall0;have hlen0:(0:Nat)<=cs.size:=gJ _;have hp:=AA.one b 1 W (.slice (some ⟨g,0,none⟩) 0 cs.size);have HFIN:Hid (EE E b T n f (.pointer (some ⟨b,0,none⟩)) (.slice (some ⟨g,0,none⟩) 0 cs.size) [] (W.setCell ⟨b,1,none⟩ (.slice (some ⟨g,0,none⟩) 0 cs.size))/\Below E w (W.setCell ⟨b,1,none⟩ (.slice (some ⟨g,0,none⟩) 0 cs.size))):=by
  refine⟨⟨h.le,(hr.set 1 _).congr fun j hj=>?_,⟨rfl,.inr ⟨g,cs.size,cs,rfl,oM,?_,gJ _,hmx,oM,rfl⟩⟩,.inr rfl⟩,(hbl.mono hE).trans (hp.bel E h.le)⟩
  .by_cases q:j=1
   .simp[q]
   .simp[q]
  .rw[hp.oth g oM];exact hg
 have HHC:=A3 hcall;have HHC0:=A3 hcall0;have HHW:=A3 hw;have HHW2:=A3 hw2;clear hrun hle hmax hbl hb0 hE hr hg hp h hW hmx hN hsz;go_enter func146,ntmps146;go_upto_region 0 with fail;refine rG (fun v=>v.cell? ⟨b,1,none⟩=some (.slice none 0 0)) fun yH=>?_;refine Tf 0 1 2 3 4 5 ?_;refine Tf 6 7 9 10 11 12 ?_;refine Bm 13 ?_;clear yH;refine Aw 8 fun K hK=>?_;go_simp
 skip
 try(go_wp2_with fail)
 refine AT hK fun yH=>?_;clear hK K;refine Tb 14 15 ?_;refine wpAnyH_done kR ?_ _;try go_wp2
 refine bodyPost_end (by simp[results,results146,go_sem, *];try rfl) rfl ?_;exact⟨rfl,_,HFIN.1,HFIN.2⟩
theorem NU(E b:Nat)(T:TypeId)(n:Nat)(f:Nat->Value)(p:Value)(hl:Nu T n)(N:Nat)(h0:0<N)(hN:N<=281474976710656)(w:World)(h:EE E b T n f p (.slice none 0 0) [] w):
 Calls prog 136 #[.pointer (some ⟨b,0,none⟩),.int .i64 N] w fun e w'=>e=.returned (.tuple #[])/\∃v',EE E b T n f (.pointer (some ⟨b,0,none⟩)) v' [] w'/\Below E w w':=by
 have HK:=A3 (FC E b T n f p _ [] hl w h);have HG:Hid (∀v,EE E b T n f (.pointer (some ⟨b,0,none⟩)) (.slice none 0 0) [] v->Calls prog 146 #[.pointer (some ⟨b,0,none⟩),.int .i64 N] v fun e w'=>e=.returned (.tuple #[])/\∃v',EE E b T n f (.pointer (some ⟨b,0,none⟩)) v' [] w'/\Below E v w'):=fun v k=>Lh E b T n f hl.ne N hN v k;have e0:¬ (N:Int)<0:=oM;have e1:(0:Int)<(N:Int):=oM;have e2:IntKind.i64.wrap 0<(N:Int):=by rw[IntKind.wrap_i64];omega
 clear h hl hN h0;go_enter func136,ntmps136;go_upto_region 3 with(go_at_call 135;(with_reducible refine HK.out.mono ?_);rintro e w1 ⟨rfl,h1,b1,-⟩;have H1:=A3 (And.intro h1 b1);clear h1 b1)
 have c1:w1.cell? ⟨b,1,none⟩=some (.slice none 0 0):=H1.1.row.cell (i:=1) oM;have c1':w1.drew.cell? ⟨b,1,none⟩=some (.slice none 0 0):=c1;have HD:Hid (EE E b T n f (.pointer (some ⟨b,0,none⟩)) (.slice none 0 0) [] w1.drew):=⟨H1.1.le,H1.1.row.of_block rfl,Aa H1.1.own (fun _ _=>rfl),H1.1.ptr⟩
 refine rG (fun v=>v.cell? ⟨b,1,none⟩=some (.slice none 0 0)) fun yH=>?_;refine Tf 0 1 2 3 4 5 ?_;refine Tf 6 7 8 9 10 11 ?_;refine Bm 12 ?_;refine wpAnyH_done kR ?_ _;go_wp2_with(go_at_call 146;(with_reducible refine(HG.out _ HD.out).mono ?_);rintro e w2 ⟨rfl,v',h2,b2⟩;have H2:=A3 (And.intro h2 b2);clear h2 b2);refine bodyPost_end (by simp[results,results136,go_sem, *];try rfl) rfl ?_;exact⟨rfl,v',H2.out.1,(H1.out.2.trans ((A4 w1).mono (by have:=H1.out.1.le;have:=H1.out.1.row.lt;omega))).trans H2.out.2⟩
def Vv(L:Lt):Bool:=decide (L.a=45->L.b=45->L.e=45\/L.e=113)&&(decide (L.a=45->L.b≠45->L.e=45\/L.e=112\/L.e=115)&&decide (L.a≠45->L.e=45\/L.e=105\/L.e=112\/L.e=115))
theorem Sp{p:Prop}[Decidable p]{x y:Lt}(h:Vv x=true)(k:Vv y=true):Vv (if p then x else y)=true:=by
 split
 .exact h
 .exact k
theorem Se(op:Int):Vv (CF op)=true:=by
 unfold CF
 iterate 19 refine Sp dE ?_
 decide
theorem Oy(v0 v1 v2 v3:Value)(c:Cd)(co:BE c)(hT:Ap c=true)(i:Ax)(h0:0<=i.bits)(h1:i.bits<4294967296)(hk:AI i.op=true)(h2:(i.op==1||i.bits==0)=true)(h3:C3 i.bits=true)(w:World)(hv:DM w v0 v1 v2 v3 c):
 Calls prog 66 #[.agg #[v0,v1,v2,v3],Cf i] w fun e w'=>e=.returned (.bool (D7 c i (CF i.op)))/\Below w.heap.size w w':=by
 have HCAN:Hid (∀w,Calls prog 65 #[.int .u32 i.bits] w fun e w'=>e=.returned (.bool true)/\Below w.heap.size w w'):=by rw[<-h3];exact CZ i.bits h0 h1
 obtain⟨a,b,cc,d,e,⟨ea,eb,ec,ed,ee⟩,hc⟩:=Nn i.op hk;obtain⟨oa,ob,oc,od,oe,oT⟩:=Uo i.op;have om:=Se i.op;unfold Vv at om;simp only[Bool.and_eq_true,decide_eq_true_eq]at om;obtain⟨m1,m2,m3⟩:=om;have hF:D7 c i (CF i.op)=(Aj c.regs (CF i.op).a i.d ⟨0,0⟩&&(Aj c.regs (CF i.op).b i.a (dR c.regs (CF i.op).a i.d)&&(Aj c.regs (CF i.op).c i.b (dR c.regs (CF i.op).a i.d)&&(Aj c.regs (CF i.op).d i.c (dR c.regs (CF i.op).a i.d)&&Cp c (CF i.op).e i.n (tR c.regs (CF i.op).a (CF i.op).b i.d i.a))))):=by
  unfold D7;rw[h2,h3,Bool.true_and,Bool.true_and]
 rw[hF];clear hF h3;have ix0:∀w,(Instr.index 9 (.string ⟨#[a,b,cc,d,e]⟩) (.int .i64 0)).run prog w=.ok (.int .u8 (CF i.op).a) w:=fun w=>by rw[<-ea];simp[Instr.index,run_underlying underlying9,asIntOf,go_sem];rfl
 have ix1:∀w,(Instr.index 9 (.string ⟨#[a,b,cc,d,e]⟩) (.int .i64 1)).run prog w=.ok (.int .u8 (CF i.op).b) w:=fun w=>by rw[<-eb];simp[Instr.index,run_underlying underlying9,asIntOf,go_sem];rfl
 have ix2:∀w,(Instr.index 9 (.string ⟨#[a,b,cc,d,e]⟩) (.int .i64 2)).run prog w=.ok (.int .u8 (CF i.op).c) w:=fun w=>by rw[<-ec];simp[Instr.index,run_underlying underlying9,asIntOf,go_sem];rfl
 have ix3:∀w,(Instr.index 9 (.string ⟨#[a,b,cc,d,e]⟩) (.int .i64 3)).run prog w=.ok (.int .u8 (CF i.op).d) w:=fun w=>by rw[<-ed];simp[Instr.index,run_underlying underlying9,asIntOf,go_sem];rfl
 have PF:∀w,(Instr.index 9 (.string ⟨#[a,b,cc,d,e]⟩) (.int .i64 4)).run prog w=.ok (.int .u8 (CF i.op).e) w:=fun w=>by rw[<-ee];simp[Instr.index,run_underlying underlying9,asIntOf,go_sem];rfl
 cases h:(i.op==1)
 .rw[h,Bool.false_or]at h2;have o2:(i.op != 1)=true:=by simpa using h
  have o4:(i.bits != 0)=false:=by simpa using h2
  by_cases hz:(CF i.op).a=45
  .exact SW v0 v1 v2 v3 c co hT i.op i.d i.a i.b i.c i.n i.bits _ _ _ _ _ a b cc d e hc HCAN ix0 ix1 ix2 ix3 PF oa ob oc od oT h o2 h2 o4 hz (m1 hz) (m2 hz) w hv
  .exact SX v0 v1 v2 v3 c co hT i.op i.d i.a i.b i.c i.n i.bits _ _ _ _ _ a b cc d e hc HCAN ix0 ix1 ix2 ix3 PF oa ob oc od oT h o2 h2 o4 hz (m3 hz) w hv
 .have o2:(i.op != 1)=false:=by simpa using h
  have e1:i.op=1:=by simpa using h
  have ha:(CF i.op).a≠45:=by rw[e1];decide
  have he:(CF i.op).e=45:=by rw[e1];rfl
  exact SY v0 v1 v2 v3 c co hT i.op i.d i.a i.b i.c i.n i.bits _ _ _ _ _ a b cc d e hc HCAN ix0 ix1 ix2 ix3 PF oa ob oc od oT h o2 ha he w hv
theorem D9:Nu 126 0:=⟨kR,dE⟩
theorem FJ:∀ (a:List Bs) (b:Bs),a≠[]->A7 (a++[b])=A7 a++32::b
 |[],_,h=>absurd rfl h
 |[x],b,_=>rfl
 |x::y::r,b,_=>by
  have:=FJ (y::r) b sM;have e1:A7 (x::(y::r++[b]))=x++32::A7 (y::r++[b]):=Be sM;have e2:A7 (x::y::r)=x++32::A7 (y::r):=Be sM;show A7 (x::(y::r++[b]))=_;rw[e1,this,e2];simp
theorem O6{ws:List Bs}{j:Nat}(h:j+1<ws.length):A7 (ws.take (j+2))=(A7 (ws.take (j+1))++[32])++ws[j+1]:=by
 rw[show j+2=(j+1)+1 by omega,List.take_succ_eq_append_getElem h,FJ _ _ (by intro e;have:=congrArg List.length e;rw[List.length_take,List.length_nil]at this;omega)];simp
def lenS(ws:List Bs)(j:Nat):Nat:=((ws.take j).map List.length).sum
theorem Ik{ws:List Bs}{j:Nat}(h:j<ws.length):lenS ws (j+1)=lenS ws j+ws[j].length:=by
 unfold lenS;rw[List.take_succ_eq_append_getElem h,List.map_append,List.sum_append];rfl
theorem IY{ws:List Bs}{B:Nat}(h:∀x∈ws,x.length<=B):∀j,lenS ws j<=B*j
 |0=>by simp[lenS]
 |j+1=>by
  by_cases q:j<ws.length
  .rw[Ik q,Nat.mul_succ];have:=IY h j;have:=h ws[j] (gD q);omega
  .have h1:lenS ws (j+1)=lenS ws j:=by unfold lenS;rw[List.take_of_length_le oM,List.take_of_length_le oM]
   rw[h1,Nat.mul_succ];have:=IY h j;omega
theorem FI:∀ (ws:List Bs) (B:Nat),(∀x∈ws,x.length<=B)->(A7 ws).length<=(B+1)*ws.length
 |[],_,_=>gJ _
 |[a],B,h=>by have:=h a sM;simp[A7];omega
 |a::b::r,B,h=>by
  have h1:=h a sM;have h2:=FI (b::r) B (fun x hx=>h x (List.mem_cons_of_mem _ hx));rw[Be sM,List.length_append,List.length_cons];simp only[List.length_cons]at h2 |-;rw[Nat.mul_succ];omega
theorem Tm(ws:List Bs)(B:Nat)(h:∀x∈ws,x.length<=B)(j:Nat)(hk:ws.length<=6):(A7 (ws.take j)).length<=(B+1)*6:=
 gH (FI _ B fun x hx=>h x (List.mem_of_mem_take hx)) (Nat.mul_le_mul_left (B+1) (show(ws.take j).length<=6 by rw[List.length_take];omega))
theorem O5{ws:List Bs}(h:2<=ws.length):A7 ws≠[]:=by
 match ws,h with
 |a::b::r,_=>rw[Be sM];simp
theorem KU(R:Nat)(U:ByteArray)(c:Nat)(w:World)(h:w.cell? ⟨R,0,none⟩=some (.string U)):
 Calls prog 107 #[.slice (some ⟨R,0,none⟩) 1 c,.string ⟨#[32]⟩] w fun e w'=>e=.returned (.string U)/\w'=w:=by
 go_enter func107,ntmps107;go_wp2;go_ret;exact⟨rfl,rfl⟩
theorem Nx(R:Nat)(ws:List Bs)(c:Nat)(w:World)(h2:2<=ws.length)(h6:ws.length<=6)(hw:∀x∈ws,x.length<=1000000)(hc:∀i (hi:i<ws.length),w.cell? ⟨R,i,none⟩=some (.string (A6 ws[i])))(hcap:ws.length<=c):
 Calls prog 107 #[.slice (some ⟨R,0,none⟩) ws.length c,.string ⟨#[32]⟩] w fun e w'=>e=.returned (.string (A6 (A7 ws)))/\Below w.heap.size w w':=by
 have HC:=A3 hc;have HLN:=A3 (IY hw);have HTL:=A3 (Tm ws 1000000 hw · h6);have HSZ:Hid (∀i (hi:i<ws.length),(A6 ws[i]).size=ws[i].length/\ws[i].length<=1000000):=fun i hi=>⟨by show(ws[i].toArray).size=_;simp,hw _ (gD hi)⟩
 obtain⟨k,hk⟩:=gA (ws.length)
 have HK:=A3 hk;rw[hk]at h2 h6 hcap |-;have HR:Hid (R<w.heap.size):=by have:=hc 0 oM;exact Ac this
 have HBD:=A3 (And.intro h2 h6);have e1:((k:Int)==0)=false:=sO;have e2:((k:Int)==1)=false:=sO;have w1:IntKind.i64.wrap ((k:Int)-1)=(k:Int)-1:=by rw[IntKind.wrap_i64];omega
 have e3:¬ (9223372036854775807/((k:Int)-1)<=1):=by
  rcases(show k=2\/k=3\/k=4\/k=5\/k=6 by omega)with rfl|rfl|rfl|rfl|rfl<;>decide
 have e4:¬ (Int.tdiv 9223372036854775807 ((k:Int)-1)<=1):=by
  rcases(show k=2\/k=3\/k=4\/k=5\/k=6 by omega)with rfl|rfl|rfl|rfl|rfl<;>decide
 have e5:((k:Int)-1==0)=false:=sO;have e6:¬ (k:Int)-1=0:=oM;have k1:(0:Int)<=0/\(0:Int)<(k:Int):=oM;have k2:1<=k:=oM;clear hw hc;go_enter func107,ntmps107;go_wp2_with fail
 go_loopw [5,41] (fun nv iv wx=>∃j:Nat,j<=k/\iv=.int .i64 (j:Int)/\nv=.int .i64 ((k-1+lenS ws j:Nat):Int)/\Hid (wx=w)) (fun _ iv _=>k-(intOf iv).toNat)
 case atStart=>exact⟨0,gJ _,rfl,by rw[show lenS ws 0=0 from rfl];congr 1;omega,rfl⟩
 case round=>
  obtain⟨j,hj,rfl,rfl,HJ⟩:=hrel;obtain rfl:wr=w:=HJ.out;by_cases hlt:j<k
  .have hjl:j<ws.length:=by rw[HK.out];exact hlt
   have c0:=HC.out j hjl;obtain⟨s1,s2⟩:=HSZ.out j hjl;have hs:=Ik hjl;have hb:=HLN.out j;obtain⟨U,hU⟩:=gA (A6 ws[j])
   obtain⟨A,hA⟩:=gA (lenS ws j)
   rw[hU]at c0 s1;rw[hA]at hs hb |-;have i0:(0:Int)<=(j:Int):=oM;have i1:(j:Int)<(k:Int):=oM;obtain⟨N,hN⟩:=gA (k-1+A)
   rw[hN];have g1:IntKind.i64.wrap (9223372036854775807-(N:Int))=9223372036854775807-(N:Int):=by rw[IntKind.wrap_i64];omega
   have g2:¬ (9223372036854775807-(N:Int)<(U.size:Int)):=oM;have g3:IntKind.i64.wrap ((N:Int)+(U.size:Int))=((N+U.size:Nat):Int):=by rw[IntKind.wrap_i64];omega
   have g4:IntKind.i64.wrap ((j:Int)+1)=((j+1:Nat):Int):=by rw[IntKind.wrap_i64];omega
   have HNX:Hid (N+U.size=k-1+lenS ws (j+1)):=by show _=_;rw[hs,<-hN];omega
   clear hjl s1 s2 hs hb hU hA hN HC HLN HSZ;go_wp2;go_roundw
   case rel=>exact⟨j+1,oM,gN,by congr 1;have:=HNX.out;omega,(show Hid True from trivial)⟩
   case measure=>simp[intOf];omega
  .obtain rfl:j=k:=oM;have i1:¬ (j:Int)<(j:Int):=oM;obtain⟨N,hN⟩:=gA (j-1+lenS ws j)
   have hN1:0<N/\N<=281474976710656:=by have:=HLN.out j;omega
   rw[hN];clear hN hlt hj;obtain⟨b,hb⟩:=gA (wr.heap.size)
   obtain⟨W,hW⟩:=gA (wr.alloc (.cells #[.pointer none,.slice none 0 0] 126))
   have hBd:EE b b 126 0 (fun _=>undef) (.pointer none) (.slice none 0 0) [] W:=by
    refine⟨gF _,?_,⟨rfl,.inl ⟨rfl,rfl⟩⟩,.inl rfl⟩;rw[<-hW,<-hb];exact World.rowIs_alloc wr #[.pointer none,.slice none 0 0] _ _ (fun i hi=>by
     rcases(show i=0\/i=1 by have:i<2:=hi;omega)with rfl|rfl<;>rfl)
   have HB0:Hid (Below b wr W):=by show Below b wr W;rw[<-hW,<-hb];exact A2 _ _
   have HG:=A3 (NU b b _ 0 _ _ D9 N hN1.1 hN1.2 W hBd);have HC0:Hid (∀ (v:World),Below b wr v->∀i (hi:i<ws.length),v.cell? ⟨R,i,none⟩=some (.string (A6 ws[i]))):=fun v k i hi=>by rw[<-hb]at k;exact kc k (HC.out i hi)
   have HBS:=A3 hb;clear hBd hN1;go_upto_region 20 with(go_at_call 136;(with_reducible refine HG.out.mono ?_);rintro e w1 ⟨rfl,v1,h1,b1⟩;have H1:=A3 (And.intro h1 (HB0.out.trans b1));clear h1 b1)
   have hjl:0<ws.length:=by rw[HK.out];omega
   have c0:=HC0.out w1 H1.2 0 hjl;obtain⟨s1,s2⟩:=HSZ.out 0 hjl;obtain⟨U,hU⟩:=gA (A6 ws[0])
   rw[hU]at c0 s1;have HWS:=A3 (DL b b _ 0 _ _ _ [] D9 U (by show 0+U.size<=_;omega) w1 H1.1);have HU0:Hid (bs U=A7 (ws.take 1)):=by
    show _=_;rw[<-hU,AZ]
    match ws,hjl with
    |a::r,_=>rfl
   clear hjl s1 s2 hU;go_upto_region 21 with(go_at_call 106;(with_reducible refine HWS.out.mono ?_);rintro e w2 ⟨rfl,v2,h2,b2,-⟩;have H2:=A3 (And.intro h2 (H1.out.2.trans b2));clear h2 b2)
   clear c0;have j1:(1:Int)<=(j:Int)/\1<=j:=oM;have j2:1<=j:=oM;have j3:(1:Int)<=(j:Int):=oM;have j4:(j:Int)<=(c:Int):=oM;have HEN:Hid (bs U=A7 (ws.take 1)/\Below b wr w2/\∃v,EE b b 126 0 (fun _=>undef) (.pointer (some ⟨b,0,none⟩)) v (A7 (ws.take 1)) w2):=⟨HU0.out,H2.2,v2,by have:=H2.1;rw[HU0.out,List.nil_append]at this;exact this⟩
   go_wp2_with fail
   go_loopw [65] (fun iv wx=>∃i:Nat,i<=j-1/\iv=.int .i64 (i:Int)/\Hid (Below b wr wx/\∃v,EE b b 126 0 (fun _=>undef) (.pointer (some ⟨b,0,none⟩)) v (A7 (ws.take (i+1))) wx)) (fun iv _=>j-(intOf iv).toNat)
   case atStart=>exact⟨0,gJ _,rfl,HEN.2.1,HEN.2.2⟩
   case round=>
    obtain⟨i,hi,rfl,HJ2⟩:=hrel;obtain⟨b2,v3,h3⟩:=HJ2.out;by_cases hlt:i<j-1
    .have hil:i+1<ws.length:=by rw[HK.out];omega
     have c1:=HC0.out _ b2 (i+1) hil;obtain⟨s1,s2⟩:=HSZ.out (i+1) hil;have hjt:=O6 hil;obtain⟨U2,hU2⟩:∃U,A6 ws[i+1]=U:=⟨_,rfl⟩
     have hbU:bs U2=ws[i+1]:=by rw[<-hU2];exact AZ _
     rw[hU2]at c1 s1;rw[<-hbU]at hjt;have c1':wr.cell? ⟨R,1+i,none⟩=some (.string U2):=by rw[Nat.add_comm];exact c1
     have i0:(0:Int)<=(i:Int):=oM;have i1:(i:Int)<((j-1:Nat):Int):=oM;have i2:(i:Int)<(j:Int)-1:=oM;have g4:IntKind.i64.wrap ((i:Int)+1)=((i+1:Nat):Int):=by rw[IntKind.wrap_i64];omega
     have hl1:=HTL.out (i+1);have HW1:=A3 (DL b b _ 0 _ _ _ _ D9 ⟨#[32]⟩ (by show _+1<=_;omega) _ h3);have HW2:Hid (∀v4 x,EE b b 126 0 (fun _=>undef) (.pointer (some ⟨b,0,none⟩)) v4 (A7 (ws.take (i+1))++[32]) x->Calls prog 106 #[.pointer (some ⟨b,0,none⟩),.string U2] x fun e w'=>e=.returned (.tuple #[.int .i64 (U2.size:Int),.nilIface])/\∃v',EE b b 126 0 (fun _=>undef) (.pointer (some ⟨b,0,none⟩)) v' (A7 (ws.take (i+2))) w'/\Below b x w'/\Cg b x w'):=fun v4 x k=>by
      rw[hjt];exact DL b b _ 0 _ _ _ _ D9 U2 (by rw[List.length_append];show _+1+_<=_;omega) _ k
     clear h3 hl1 hjt s1 s2 hU2 hbU hil hlt;go_wp2_with(first
      |(go_at_call 106;(with_reducible refine HW1.out.mono ?_);rintro e w5 ⟨rfl,v5,h5,b5,-⟩;have H5:=A3 (And.intro h5 (b2.trans b5));clear h5 b5 c1 c1')
      |(go_at_call 106;(with_reducible refine(HW2.out _ _ H5.out.1).mono ?_);rintro e w6 ⟨rfl,v6,h6,b6,-⟩;have H6:=A3 (And.intro (H5.out.2.trans b6) h6);clear h6 b6))
     go_roundw
     case rel=>exact⟨i+1,oM,gN,H6.1,v6,H6.2⟩
     case measure=>simp[intOf];omega
    .obtain rfl:i=j-1:=oM;have i1:¬ ((j-1:Nat):Int)<((j-1:Nat):Int):=oM;have hall:ws.take (j-1+1)=ws:=List.take_of_length_le (by rw[HK.out];omega);rw[hall]at h3;have hne:A7 ws≠[]:=O5 (by rw[HK.out];omega);have HST:=A3 (Gd b b _ 0 _ _ _ _ hne _ h3);clear h3 hall hne hlt;go_wp2_with(go_at_call 73;(with_reducible refine HST.out.mono ?_);rintro e w6 ⟨rfl,b6⟩;have H6:=A3 (b2.trans b6);clear b6);refine bodyPost_ret (by simp[results,results107,go_sem, *];try rfl) rfl ?_;exact⟨rfl,by rw[HBS.out];exact H6.out⟩
theorem Ox(v0 v1 v2 v3:Value)(c:Cd)(co:BE c)(hT:Ap c=true)(i:Ax)(h0:0<=i.bits)(h1:i.bits<4294967296)(w:World)(hv:DM w v0 v1 v2 v3 c):
 Calls prog 66 #[.agg #[v0,v1,v2,v3],Cf i] w fun e w'=>e=.returned (.bool (AI i.op&&D7 c i (CF i.op)))/\Below w.heap.size w w':=by
 cases hh:(AI i.op&&((i.op==1||i.bits==0)&&C3 i.bits))
 .have e:(AI i.op&&D7 c i (CF i.op))=false:=by
   unfold D7;revert hh;cases AI i.op<;>cases(i.op==1||i.bits==0)<;>cases C3 i.bits<;>simp
  rw[e];exact Qr v0 v1 v2 v3 i h0 h1 hh w
 .simp only[Bool.and_eq_true]at hh;rw[hh.1,Bool.true_and];exact Oy v0 v1 v2 v3 c co hT i h0 h1 hh.1 hh.2.1 hh.2.2 w hv
theorem SQ{c:Cd}{i:Ax}(h:Bl c i (A5 i.op)=true):∀x∈Ay i (A5 i.op),0<=x/\x<(c.regs.length:Int):=by
 intro x hx;unfold Ay at hx;simp only[List.mem_append]at hx;rcases hx with hx|hx|hx
 .split at hx
  .simp at hx
  .rename_i e;simp at hx;subst hx;exact BA (Mn h) e
 .split at hx
  .simp at hx
  .rename_i e;simp at hx;subst hx;exact BA (Mo h) e
 .split at hx
  .simp at hx
  .rename_i e;simp at hx;subst hx;exact BA (Mp h) e
theorem On(i:Ax):(Ay i (A5 i.op)).length<=3:=by
 rw[Ef];simp only[List.length_append];have a:=DC (A5 i.op).a i.a;have b:=DC (A5 i.op).b i.b;have d:=DC (A5 i.op).c i.c;omega
theorem Kc(v0 v1 v2 v3:Value)(c:Cd)(co:BE c)(hT:Ap c=true)(i:Ax)(hb0:0<=i.bits)(hb1:i.bits<4294967296)(B:Nat)(s:Wk)(sv ov:Value)(us:List Value)(hM:c.regs.length<=16384)(ok:Df c.regs.length s)(po:CP s)(w:World)(hv:DM w v0 v1 v2 v3 c)(hs:SK B c.regs.length w sv ov s us):
 Calls prog 43 #[.agg #[v0,v1,v2,v3],Cf i,sv,ov] w fun e w'=>e=.returned (.bool (Bd c s i))/\Below w.heap.size w w':=by
 rw[OP hT po];have hfit:(AI i.op&&D7 c i (CF i.op))=true->Bl c i (A5 i.op)=true:=fun h=>by simp only[Bool.and_eq_true]at h;rw[<-JK hT];exact h.2
 have HFIT:Hid (∀v,Below w.heap.size w v->Calls prog 66 #[.agg #[v0,v1,v2,v3],Cf i] v fun e w'=>e=.returned (.bool (AI i.op&&D7 c i (CF i.op)))/\Below v.heap.size v w'):=fun v hb=>Ox v0 v1 v2 v3 c co hT i hb0 hb1 v (hv.below hb);have HVEC:Hid (∀v,Below w.heap.size w v->Calls prog 67 #[.agg #[v0,v1,v2,v3],Cf i] v fun e w'=>e=.returned (.int .i64 (ED c.regs (DY i)))/\Below v.heap.size v w'):=fun v hb=>Kf v0 v1 v2 v3 c co i v (hv.below hb);have HRD:Hid (∀v,Calls prog 37 #[Cf i] v fun e w'=>∃u,e=.returned u/\w'.ownsRow v.heap.size 3 1 u (Ay i (A5 i.op)).length (Ce (Ay i (A5 i.op)))/\Below v.heap.size v w'):=GY i;have hR3:=On i;have hRP:=fun h=>SQ (hfit h);have hRO:FR s i (A5 i.op)=(Ay i (A5 i.op)).all fun n=>decide (n.toNat∈s.set):=rfl;rw[hRO];clear hfit hRO;unfold JQ Kq;obtain⟨Fi,hFi⟩:∃F,(AI i.op&&D7 c i (CF i.op))=F:=⟨_,rfl⟩
 rw[hFi]at HFIT hRP |-;obtain⟨V,hV⟩:=gA (ED c.regs (DY i))
 rw[hV]at HVEC |-;obtain⟨R,hR⟩:=gA (Ay i (A5 i.op))
 rw[hR]at HRD hR3 hRP |-;have hnest:=ok.nest;have hlast:=fun g q (e:ov=.slice (some ⟨g,0,none⟩) s.opens.length q)=>SK.last (e▸hs);obtain⟨p,q,rfl⟩:=Ad hs.opn;have hopn:0<s.opens.length->∃g,p=some ⟨g,0,none⟩:=fun h=>by
  obtain⟨g,cap,e,_⟩:=hs.opn.form h;simp only[Value.slice.injEq]at e;exact⟨g,e.1⟩
 obtain⟨ps,qs,rfl⟩:=Ad hs.set;have HSET:Hid (∀k,k<c.regs.length->∃g,ps=some ⟨g,0,none⟩/\w.cell? ⟨g,k,none⟩=some (.bool (decide (k∈s.set)))):=fun k hk=>by
  obtain⟨g,cap,e,_⟩:=hs.set.form oM;simp only[Value.slice.injEq]at e;obtain⟨rfl,-,-⟩:=e;exact⟨g,rfl,by rw[hs.set.cellAt k oM,Fr hk]⟩
 have hz:s.opens.length=0->AP s=false:=fun h=>by
  obtain⟨S,O⟩:=s;cases O with
  |nil=>rfl
  |cons b r=>simp at h
 obtain⟨S,hS⟩:=gA (s.set)
 obtain⟨n,hn⟩:=gA (s.opens.length)
 obtain⟨lp,hlp⟩:∃l,AP s=l:=⟨_,rfl⟩
 obtain⟨par,hpar⟩:∃l,C8 s=l:=⟨_,rfl⟩
 obtain⟨M,hMM⟩:=gA (c.regs.length)
 rw[hn]at hnest hlast hopn hz |-;rw[hlp]at hlast hz |-;rw[hpar]at hlast |-;rw[hS]at HSET |-;rw[hMM]at hM HSET hRP hlast |-;clear hFi hV hR hs ok po hv co hT hS hn hlp hpar hMM;obtain⟨op,D,A,Q,E,nn,bt⟩:=i;unfold Cf at HFIT HVEC HRD |-;simp only at HFIT HVEC HRD hb0 hb1 |-;clear hb0 hb1;have HT0:Hid (TW w v0 v1 v2 v3 (w.heap.size+1) op D A Q E nn bt ((w.alloc (.cells #[v0,v1,v2,v3] 27)).alloc (.cells #[.int .i64 op,.int .i64 D,.int .i64 A,.int .i64 Q,.int .i64 E,.int .i64 nn,.int .u32 bt] 39))):=TW.start w v0 v1 v2 v3 op D A Q E nn bt;obtain⟨hb00,c0,c1,c2,c3,i0,i1,i2,i3,i4,i5,i6⟩:=HT0.out;have hcase:(n=0/\lp=false)\/(∃m g,m+1=n/\p=some ⟨g,0,none⟩/\lp=false/\w.cell? ⟨g,m*3,none⟩=some (.int .i64 34))\/(∃m g,m+1=n/\p=some ⟨g,0,none⟩/\lp=true/\w.cell? ⟨g,m*3,none⟩=some (.int .i64 36)/\w.cell? ⟨g,m*3+1,none⟩=some (.int .i64 par)):=by
  by_cases h0:n=0
  .exact .inl ⟨h0,hz h0⟩
  .obtain⟨g,rfl⟩:=hopn oM;obtain⟨X,u,-,-,a0,a1,-⟩:=hlast g q rfl oM;obtain⟨m,rfl⟩:∃m,n=m+1:=⟨n-1,oM⟩
   rw[Nat.add_sub_cancel]at a0 a1;cases lp
   .exact .inr (.inl ⟨m,g,rfl,rfl,rfl,a0⟩)
   .exact .inr (.inr ⟨m,g,rfl,rfl,rfl,a0,a1⟩)
 clear hlast hopn hz;have HRP:Hid (Fi=true->∀x∈R,0<=x/\x<(M:Int)):=hRP;clear hRP;obtain⟨RES,hRES⟩:∃X,(Fi&&(!(lp&&(op != 37&&V != par))&&((R.all fun n=>decide (n.toNat∈S))&&(if op=34\/op=36 then decide (n<64)else if op=35 then decide (0<n)&& !lp else if op=37 then lp else true))))=X:=⟨_,rfl⟩
 rw[hRES];cases Fi
 .have HQF:Hid (false=RES):=hRES;clear hRES;rcases hcase with⟨rfl,rfl⟩|⟨m,g,hm,rfl,rfl,z0⟩|⟨m,g,hm,rfl,rfl,z0,z1⟩
  .exact Ww
  .have hw:IntKind.i64.wrap ((n:Int)-1)=(m:Int):=by rw[IntKind.wrap_i64];omega
   have x0:=kc hb00 z0;have j0:(0:Int)<(n:Int):=oM;have j1:(0:Int)<=(m:Int):=oM;have j2:(m:Int)<(n:Int):=oM;exact Ww
  .have hw:IntKind.i64.wrap ((n:Int)-1)=(m:Int):=by rw[IntKind.wrap_i64];omega
   have x0:=kc hb00 z0;have j0:(0:Int)<(n:Int):=oM;have j1:(0:Int)<=(m:Int):=oM;have j2:(m:Int)<(n:Int):=oM;exact Ww
 .rw[Bool.true_and]at hRES;have HRP1:Hid (∀x∈R,0<=x/\x<(M:Int)):=HRP.out rfl;clear HRP;rcases hcase with⟨hn0,rfl⟩|⟨m,g,hm,rfl,rfl,z0⟩|⟨m,g,hm,rfl,rfl,z0,z1⟩
  .rw[Bool.false_and,Bool.not_false,Bool.true_and]at hRES;have HR2:Hid (((R.all fun n=>decide (n.toNat∈S))&&(if op=34\/op=36 then decide (n<64)else if op=35 then decide (0<n)&& !false else if op=37 then false else true))=RES):=hRES;clear hRES;have j0:¬ (0:Int)<(n:Int):=oM;go_enter func43,ntmps43;go_wp2;refine rG (fun v=>v.cell? ⟨w.heap.size,0,none⟩=some v0/\v.cell? ⟨w.heap.size,1,none⟩=some v1/\v.cell? ⟨w.heap.size,2,none⟩=some v2/\v.cell? ⟨w.heap.size,3,none⟩=some v3/\v.cell? ⟨w.heap.size+1,0,none⟩=some (.int .i64 op)/\v.cell? ⟨w.heap.size+1,1,none⟩=some (.int .i64 D)/\v.cell? ⟨w.heap.size+1,2,none⟩=some (.int .i64 A)/\v.cell? ⟨w.heap.size+1,3,none⟩=some (.int .i64 Q)/\v.cell? ⟨w.heap.size+1,4,none⟩=some (.int .i64 E)/\v.cell? ⟨w.heap.size+1,5,none⟩=some (.int .i64 nn)/\v.cell? ⟨w.heap.size+1,6,none⟩=some (.int .u32 bt)) fun yH=>?_;refine Tb 0 1 ?_;clear yH;refine Aw 2 fun K hK=>?_;go_simp;(go_at_call 66;(with_reducible refine(HFIT.out _ (bel HT0.out.bel (A4 _))).mono ?_);rintro e wz ⟨rfl,hbz⟩;have HBZ:Hid (Below ((w.alloc (.cells #[v0,v1,v2,v3] 27)).alloc (.cells #[.int .i64 op,.int .i64 D,.int .i64 A,.int .i64 Q,.int .i64 E,.int .i64 nn,.int .u32 bt] 39)).heap.size ((w.alloc (.cells #[v0,v1,v2,v3] 27)).alloc (.cells #[.int .i64 op,.int .i64 D,.int .i64 A,.int .i64 Q,.int .i64 E,.int .i64 nn,.int .u32 bt] 39)) wz):=bel (A4 _) hbz;clear hbz;obtain⟨-,c0,c1,c2,c3,i0,i1,i2,i3,i4,i5,i6⟩:=HT0.out.next HBZ.out);try(go_wp2_with fail)
   refine AT hK fun yH=>?_;clear hK K;refine Tc 3 4 5 ?_;refine Bm 6 ?_;refine Cu 7 ?_;refine Cu 8 ?_;refine Cu 9 ?_;refine Tb 10 11 ?_;refine Kd 12 13 14 15 ?_;refine Kd 16 17 18 19 ?_;refine Cu 20 ?_;refine Cu 21 ?_;refine Cu 22 ?_;refine Tb 23 24 ?_;refine wpAnyH_done kR ?_ _;clear j0;exact Wu
  .rw[Bool.false_and,Bool.not_false,Bool.true_and]at hRES;have HR2:Hid (((R.all fun n=>decide (n.toNat∈S))&&(if op=34\/op=36 then decide (n<64)else if op=35 then decide (0<n)&& !false else if op=37 then false else true))=RES):=hRES;clear hRES;have hw:IntKind.i64.wrap ((n:Int)-1)=(m:Int):=by rw[IntKind.wrap_i64];omega
   have x0:=kc hb00 z0;have j0:(0:Int)<(n:Int):=oM;have j1:(0:Int)<=(m:Int):=oM;have j2:(m:Int)<(n:Int):=oM;go_enter func43,ntmps43;go_wp2;refine rG (fun v=>v.cell? ⟨w.heap.size,0,none⟩=some v0/\v.cell? ⟨w.heap.size,1,none⟩=some v1/\v.cell? ⟨w.heap.size,2,none⟩=some v2/\v.cell? ⟨w.heap.size,3,none⟩=some v3/\v.cell? ⟨w.heap.size+1,0,none⟩=some (.int .i64 op)/\v.cell? ⟨w.heap.size+1,1,none⟩=some (.int .i64 D)/\v.cell? ⟨w.heap.size+1,2,none⟩=some (.int .i64 A)/\v.cell? ⟨w.heap.size+1,3,none⟩=some (.int .i64 Q)/\v.cell? ⟨w.heap.size+1,4,none⟩=some (.int .i64 E)/\v.cell? ⟨w.heap.size+1,5,none⟩=some (.int .i64 nn)/\v.cell? ⟨w.heap.size+1,6,none⟩=some (.int .u32 bt)) fun yH=>?_;refine Tb 0 1 ?_;clear yH;refine Aw 2 fun K hK=>?_;go_simp;(go_at_call 66;(with_reducible refine(HFIT.out _ (bel HT0.out.bel (A4 _))).mono ?_);rintro e wz ⟨rfl,hbz⟩;have HBZ:Hid (Below ((w.alloc (.cells #[v0,v1,v2,v3] 27)).alloc (.cells #[.int .i64 op,.int .i64 D,.int .i64 A,.int .i64 Q,.int .i64 E,.int .i64 nn,.int .u32 bt] 39)).heap.size ((w.alloc (.cells #[v0,v1,v2,v3] 27)).alloc (.cells #[.int .i64 op,.int .i64 D,.int .i64 A,.int .i64 Q,.int .i64 E,.int .i64 nn,.int .u32 bt] 39)) wz):=bel (A4 _) hbz;clear hbz;obtain⟨-,c0,c1,c2,c3,i0,i1,i2,i3,i4,i5,i6⟩:=HT0.out.next HBZ.out);try(go_wp2_with fail)
   refine AT hK fun yH=>?_;clear hK K;refine Tc 3 4 5 ?_;refine Bm 6 ?_;refine Cu 7 ?_;refine Cu 8 ?_;refine Cu 9 ?_;refine Tb 10 11 ?_;refine Kd 12 13 14 15 ?_;refine Kd 16 17 18 19 ?_;refine Cu 20 ?_;refine Cu 21 ?_;refine Cu 22 ?_;refine Tb 23 24 ?_;refine wpAnyH_done kR ?_ _;clear j0 j1 j2 hw;exact Wu
  .rw[Bool.true_and]at hRES;have hw:IntKind.i64.wrap ((n:Int)-1)=(m:Int):=by rw[IntKind.wrap_i64];omega
   have x0:=kc hb00 z0;have j0:(0:Int)<(n:Int):=oM;have j1:(0:Int)<=(m:Int):=oM;have j2:(m:Int)<(n:Int):=oM;have y1:=kc hb00 z1;by_cases h7:op=37
   .subst h7;rw[show((37:Int) != 37)=false from rfl,Bool.false_and,Bool.not_false,Bool.true_and]at hRES;have HR2:Hid (((R.all fun n=>decide (n.toNat∈S))&&(if(37:Int)=34\/(37:Int)=36 then decide (n<64)else if(37:Int)=35 then decide (0<n)&& !true else if(37:Int)=37 then true else true))=RES):=hRES;clear hRES;go_enter func43,ntmps43;go_wp2;refine rG (fun v=>v.cell? ⟨w.heap.size,0,none⟩=some v0/\v.cell? ⟨w.heap.size,1,none⟩=some v1/\v.cell? ⟨w.heap.size,2,none⟩=some v2/\v.cell? ⟨w.heap.size,3,none⟩=some v3/\v.cell? ⟨w.heap.size+1,0,none⟩=some (.int .i64 37)/\v.cell? ⟨w.heap.size+1,1,none⟩=some (.int .i64 D)/\v.cell? ⟨w.heap.size+1,2,none⟩=some (.int .i64 A)/\v.cell? ⟨w.heap.size+1,3,none⟩=some (.int .i64 Q)/\v.cell? ⟨w.heap.size+1,4,none⟩=some (.int .i64 E)/\v.cell? ⟨w.heap.size+1,5,none⟩=some (.int .i64 nn)/\v.cell? ⟨w.heap.size+1,6,none⟩=some (.int .u32 bt)) fun yH=>?_;refine Tb 0 1 ?_;clear yH;refine Aw 2 fun K hK=>?_;go_simp;(go_at_call 66;(with_reducible refine(HFIT.out _ (bel HT0.out.bel (A4 _))).mono ?_);rintro e wz ⟨rfl,hbz⟩;have HBZ:Hid (Below ((w.alloc (.cells #[v0,v1,v2,v3] 27)).alloc (.cells #[.int .i64 37,.int .i64 D,.int .i64 A,.int .i64 Q,.int .i64 E,.int .i64 nn,.int .u32 bt] 39)).heap.size ((w.alloc (.cells #[v0,v1,v2,v3] 27)).alloc (.cells #[.int .i64 37,.int .i64 D,.int .i64 A,.int .i64 Q,.int .i64 E,.int .i64 nn,.int .u32 bt] 39)) wz):=bel (A4 _) hbz;clear hbz;obtain⟨-,c0,c1,c2,c3,i0,i1,i2,i3,i4,i5,i6⟩:=HT0.out.next HBZ.out);try(go_wp2_with fail)
    refine AT hK fun yH=>?_;clear hK K;refine Tf 3 4 5 6 7 8 ?_;refine Tc 9 10 11 ?_;refine Kd 12 13 14 15 ?_;refine Kd 16 17 18 19 ?_;refine Cu 20 ?_;refine Cu 21 ?_;refine Cu 22 ?_;refine Tb 23 24 ?_;refine wpAnyH_done kR ?_ _;clear j0 j1 j2 hw y1;have HTZ:Hid (TW w v0 v1 v2 v3 (w.heap.size+1) 37 D A Q E nn bt wz):=HT0.out.next HBZ.out;go_wp2_with(go_at_call 37;(with_reducible refine(HRD.out _).mono ?_);rintro e w5 ⟨u,rfl,hou,hb5⟩;obtain⟨pu,qu,rfl⟩:=Ad hou;have HOU:Hid (w5.ownsRow wz.heap.size 3 1 (.slice pu R.length qu) R.length (Ce R)):=hou;have HB5:Hid (Below wz.heap.size wz w5):=hb5;clear hou hb5)
    go_loopw [11] (fun kv wr=>∃k:Nat,k<=R.length/\kv=.int .i64 (k:Int)/\wr=w5/\∀x∈R.take k,x.toNat∈S) (fun kv _=>R.length-(intOf kv).toNat)
    case atStart=>exact⟨0,gJ _,rfl,rfl,fun x hx=>by simp at hx⟩
    case round=>
     obtain⟨k,hk,rfl,rfl,hin⟩:=hrel;clear c0 c1 c2 c3 i0 i1 i2 i3 i4 i5 i6;obtain⟨hbq,c0,c1,c2,c3,i0,i1,i2,i3,i4,i5,i6⟩:=HTZ.next HB5.out;by_cases hlt:k<R.length
     .have hx:=HRP1.out R[k] (gD hlt);obtain⟨d,hd⟩:∃d:Nat,R[k]=(d:Int):=⟨R[k].toNat,oM⟩
      obtain⟨gs,rfl,hcs⟩:=HSET.out d oM;have hcs':=kc hbq hcs;obtain⟨gu,cu,eu,-⟩:=HOU.form oM;simp only[Value.slice.injEq]at eu;obtain⟨rfl,-,rfl⟩:=eu;have hcu:wr.cell? ⟨gu,k,none⟩=some (.int .i64 (d:Int)):=by rw[HOU.cellAt k oM];simp[Ce,hlt,hd]
      have HMEM:Hid (R[k]=(d:Int)):=hd;have HIN:Hid (∀x∈R.take k,x.toNat∈S):=hin;have t0:(0:Int)<=(k:Int):=oM;have t1:(k:Int)<(R.length:Int):=oM;have t2:(0:Int)<=(d:Int):=oM;have t3:(d:Int)<(M:Int):=oM;have wk:IntKind.i64.wrap ((k:Int)+1)=((k+1:Nat):Int):=by rw[IntKind.wrap_i64];omega
      clear hx hd hin hcs hk;cases hX:decide (d∈S)
      .rw[hX]at hcs';have hall:(R.all fun n=>decide (n.toNat∈S))=false:=by
        rw[List.all_eq_false];exact⟨R[k],gD hlt,by rw[HMEM.out,Int.toNat_natCast,hX];decide⟩
       have HQF:Hid (false=RES):=by show _=_;have:=HR2.out;rw[hall,Bool.false_and]at this;exact this
       clear hX hall;go_wp2;go_ret;exact⟨A8 HQF.out,hbq⟩
      .rw[hX]at hcs';have HX:Hid (d∈S):=by show d∈S;exact of_decide_eq_true hX
       clear hX;go_wp2;go_roundw
       case rel=>
        refine⟨k+1,oM,gN,fT,fun x hx=>?_⟩;rw[List.take_succ_eq_append_getElem hlt,List.mem_append]at hx;rcases hx with hx|hx
        .exact HIN.out x hx
        .simp only[List.mem_singleton]at hx;rw[hx,HMEM.out,Int.toNat_natCast];exact HX.out
       case measure=>simp[intOf];omega
     .have hkk:k=R.length:=oM;have hall:(R.all fun n=>decide (n.toNat∈S))=true:=by
       rw[List.all_eq_true];intro x hx;rw[hkk,List.take_length]at hin;simpa using hin x hx
      have h9:=HR2.out;rw[hall,Bool.true_and]at h9;have HTS:Hid _:=h9;clear h9;have t1:¬ (k:Int)<(R.length:Int):=oM;clear hall hin hk hlt;have HQ:Hid (true=RES):=by show _=_;have:=HTS.out;simpa using this
      go_wp2;go_ret;exact⟨A8 HQ.out,hbq⟩
   .have h7':(op != 37)=true:=by simpa using h7
    have h7b:(op==37)=false:=by simpa using h7
    rw[h7',Bool.true_and]at hRES;cases hVV:(V != par)
    .rw[hVV,Bool.not_false,Bool.true_and]at hRES;have HR2:Hid (((R.all fun n=>decide (n.toNat∈S))&&(if op=34\/op=36 then decide (n<64)else if op=35 then decide (0<n)&& !true else if op=37 then true else true))=RES):=hRES;clear hRES;have hVb:(V==par)=true:=by simpa using hVV
     go_enter func43,ntmps43;go_wp2;refine rG (fun v=>v.cell? ⟨g,m*3+1,none⟩=some (.int .i64 par)/\v.cell? ⟨w.heap.size,0,none⟩=some v0/\v.cell? ⟨w.heap.size,1,none⟩=some v1/\v.cell? ⟨w.heap.size,2,none⟩=some v2/\v.cell? ⟨w.heap.size,3,none⟩=some v3/\v.cell? ⟨w.heap.size+1,0,none⟩=some (.int .i64 op)/\v.cell? ⟨w.heap.size+1,1,none⟩=some (.int .i64 D)/\v.cell? ⟨w.heap.size+1,2,none⟩=some (.int .i64 A)/\v.cell? ⟨w.heap.size+1,3,none⟩=some (.int .i64 Q)/\v.cell? ⟨w.heap.size+1,4,none⟩=some (.int .i64 E)/\v.cell? ⟨w.heap.size+1,5,none⟩=some (.int .i64 nn)/\v.cell? ⟨w.heap.size+1,6,none⟩=some (.int .u32 bt)) fun yH=>?_;refine Tb 0 1 ?_;clear yH;refine Aw 2 fun K hK=>?_;go_simp;(go_at_call 66;(with_reducible refine(HFIT.out _ (bel HT0.out.bel (A4 _))).mono ?_);rintro e w1 ⟨rfl,hb1⟩;have HB1:Hid (Below ((w.alloc (.cells #[v0,v1,v2,v3] 27)).alloc (.cells #[.int .i64 op,.int .i64 D,.int .i64 A,.int .i64 Q,.int .i64 E,.int .i64 nn,.int .u32 bt] 39)).heap.size ((w.alloc (.cells #[v0,v1,v2,v3] 27)).alloc (.cells #[.int .i64 op,.int .i64 D,.int .i64 A,.int .i64 Q,.int .i64 E,.int .i64 nn,.int .u32 bt] 39)) w1):=bel (A4 _) hb1;clear hb1;obtain⟨-,c0,c1,c2,c3,i0,i1,i2,i3,i4,i5,i6⟩:=HT0.out.next HB1.out;have y1:=kc (bel HT0.out.bel HB1.out) z1);try(go_wp2_with fail)
     refine AT hK fun yH=>?_;clear hK K;refine Tf 3 4 5 6 7 8 ?_;refine Tf 9 10 11 12 13 15 ?_;refine Tf 16 17 18 19 20 21 ?_;clear yH;refine Aw 14 fun K hK=>?_;go_simp;(go_at_call 67;(with_reducible refine(HVEC.out _ (bel HT0.out.bel HB1.out)).mono ?_);rintro e wz ⟨rfl,hbz⟩;have HBZ:Hid (Below ((w.alloc (.cells #[v0,v1,v2,v3] 27)).alloc (.cells #[.int .i64 op,.int .i64 D,.int .i64 A,.int .i64 Q,.int .i64 E,.int .i64 nn,.int .u32 bt] 39)).heap.size ((w.alloc (.cells #[v0,v1,v2,v3] 27)).alloc (.cells #[.int .i64 op,.int .i64 D,.int .i64 A,.int .i64 Q,.int .i64 E,.int .i64 nn,.int .u32 bt] 39)) wz):=bel HB1.out hbz;clear hbz c0 c1 c2 c3 i0 i1 i2 i3 i4 i5 i6 y1;obtain⟨-,c0,c1,c2,c3,i0,i1,i2,i3,i4,i5,i6⟩:=HT0.out.next HBZ.out;have y1:=kc (bel HT0.out.bel HBZ.out) z1);try(go_wp2_with fail)
     refine AT hK fun yH=>?_;clear hK K;refine Tc 22 23 24 ?_;refine wpAnyH_done kR ?_ _;clear j0 j1 j2 hw y1 h7' h7b;exact Wu
    .rw[hVV,Bool.not_true,Bool.false_and]at hRES;have HQF:Hid (false=RES):=hRES;clear hRES;have hVb:(V==par)=false:=by simpa using hVV
     go_enter func43,ntmps43;go_wp2;refine rG (fun v=>v.cell? ⟨g,m*3+1,none⟩=some (.int .i64 par)/\v.cell? ⟨w.heap.size,0,none⟩=some v0/\v.cell? ⟨w.heap.size,1,none⟩=some v1/\v.cell? ⟨w.heap.size,2,none⟩=some v2/\v.cell? ⟨w.heap.size,3,none⟩=some v3/\v.cell? ⟨w.heap.size+1,0,none⟩=some (.int .i64 op)/\v.cell? ⟨w.heap.size+1,1,none⟩=some (.int .i64 D)/\v.cell? ⟨w.heap.size+1,2,none⟩=some (.int .i64 A)/\v.cell? ⟨w.heap.size+1,3,none⟩=some (.int .i64 Q)/\v.cell? ⟨w.heap.size+1,4,none⟩=some (.int .i64 E)/\v.cell? ⟨w.heap.size+1,5,none⟩=some (.int .i64 nn)/\v.cell? ⟨w.heap.size+1,6,none⟩=some (.int .u32 bt)) fun yH=>?_;refine Tb 0 1 ?_;clear yH;refine Aw 2 fun K hK=>?_;go_simp;(go_at_call 66;(with_reducible refine(HFIT.out _ (bel HT0.out.bel (A4 _))).mono ?_);rintro e w1 ⟨rfl,hb1⟩;have HB1:Hid (Below ((w.alloc (.cells #[v0,v1,v2,v3] 27)).alloc (.cells #[.int .i64 op,.int .i64 D,.int .i64 A,.int .i64 Q,.int .i64 E,.int .i64 nn,.int .u32 bt] 39)).heap.size ((w.alloc (.cells #[v0,v1,v2,v3] 27)).alloc (.cells #[.int .i64 op,.int .i64 D,.int .i64 A,.int .i64 Q,.int .i64 E,.int .i64 nn,.int .u32 bt] 39)) w1):=bel (A4 _) hb1;clear hb1;obtain⟨-,c0,c1,c2,c3,i0,i1,i2,i3,i4,i5,i6⟩:=HT0.out.next HB1.out;have y1:=kc (bel HT0.out.bel HB1.out) z1);try(go_wp2_with fail)
     refine AT hK fun yH=>?_;clear hK K;refine Tf 3 4 5 6 7 8 ?_;refine Tf 9 10 11 12 13 15 ?_;refine Tf 16 17 18 19 20 21 ?_;clear yH;refine Aw 14 fun K hK=>?_;go_simp;(go_at_call 67;(with_reducible refine(HVEC.out _ (bel HT0.out.bel HB1.out)).mono ?_);rintro e wz ⟨rfl,hbz⟩;have HBZ:Hid (Below ((w.alloc (.cells #[v0,v1,v2,v3] 27)).alloc (.cells #[.int .i64 op,.int .i64 D,.int .i64 A,.int .i64 Q,.int .i64 E,.int .i64 nn,.int .u32 bt] 39)).heap.size ((w.alloc (.cells #[v0,v1,v2,v3] 27)).alloc (.cells #[.int .i64 op,.int .i64 D,.int .i64 A,.int .i64 Q,.int .i64 E,.int .i64 nn,.int .u32 bt] 39)) wz):=bel HB1.out hbz;clear hbz c0 c1 c2 c3 i0 i1 i2 i3 i4 i5 i6 y1;obtain⟨-,c0,c1,c2,c3,i0,i1,i2,i3,i4,i5,i6⟩:=HT0.out.next HBZ.out;have y1:=kc (bel HT0.out.bel HBZ.out) z1);try(go_wp2_with fail)
     refine AT hK fun yH=>?_;clear hK K;refine Tc 22 23 24 ?_;refine wpAnyH_done kR ?_ _;go_wp2;go_ret;exact⟨A8 HQF.out,bel hb00 HBZ.out⟩
theorem GO:Nu 128 5:=⟨kR,dE⟩
def VJ(p0 p1 p2 p3 p4:Nat)(k:Nat):Value:=if k=2 then .slice (some ⟨p0,0,none⟩) 3 3 else if k=3 then .slice (some ⟨p1,0,none⟩) 3 3 else if k=4 then .slice (some ⟨p2,0,none⟩) 4 4 else if k=5 then .slice (some ⟨p3,0,none⟩) 2 2 else .slice (some ⟨p4,0,none⟩) 38 38
structure FA(E WB p0 p1 p2 p3 p4:Nat)(p v:Value)(l:Bs)(w:World):Prop where
 bd:EE E WB 128 5 (VJ p0 p1 p2 p3 p4) p v l w
 sorts:w.rowIs p0 9 3 (fun i=>.string (A6 ((Ft[i]?).getD [])))
 kinds:w.rowIs p1 9 3 (fun i=>.string (A6 ((CH[i]?).getD [])))
 types:w.rowIs p2 9 4 (fun i=>.string (A6 ((CC[i]?).getD [])))
 keeps:w.rowIs p3 9 2 (fun i=>.string (A6 ((Co[i]?).getD [])))
 ops:w.rowIs p4 9 38 (fun i=>.string (A6 ((Dx[i]?).getD [])))
theorem Fq{w:World}{a b m n:Nat}{t t':TypeId}{f g:Nat->Value}(h:w.rowIs a t m f)(h':w.rowIs b t' n g)(ht:t≠t'):a≠b:=fun e=>by
 obtain⟨x,hx,-⟩:=h;obtain⟨y,hy,-⟩:=h';rw[e,hy]at hx;have:=(Obj.cells.inj (Option.some.inj hx)).2.1;exact ht this.symm
theorem EE.below{E b n:Nat}{T:TypeId}{f:Nat->Value}{p v:Value}{l:Bs}{w w':World}(h:EE E b T n f p v l w)(k:Below w.heap.size w w'):EE E b T n f p v l w':=⟨h.le,h.row.of_block (k.block _ h.row.lt),Ak h.own k,h.ptr⟩
theorem FA.keep{E WB p0 p1 p2 p3 p4:Nat}{p v p' v':Value}{l l':Bs}{w w':World}(h:FA E WB p0 p1 p2 p3 p4 p v l w)(k:Cg WB w w')(hb:EE E WB 128 5 (VJ p0 p1 p2 p3 p4) p' v' l' w'):FA E WB p0 p1 p2 p3 p4 p' v' l' w':=
 ⟨hb,k.row h.sorts dE (Fq h.sorts h.bd.row dE),k.row h.kinds dE (Fq h.kinds h.bd.row dE),k.row h.types dE (Fq h.types h.bd.row dE),k.row h.keeps dE (Fq h.keeps h.bd.row dE),k.row h.ops dE (Fq h.ops h.bd.row dE)⟩
theorem FA.below{E WB p0 p1 p2 p3 p4:Nat}{p v:Value}{l:Bs}{w w':World}(h:FA E WB p0 p1 p2 p3 p4 p v l w)(k:Below w.heap.size w w'):FA E WB p0 p1 p2 p3 p4 p v l w':=
 ⟨h.bd.below k,h.sorts.of_block (k.block _ h.sorts.lt),h.kinds.of_block (k.block _ h.kinds.lt),h.types.of_block (k.block _ h.types.lt),h.keeps.of_block (k.block _ h.keeps.lt),h.ops.of_block (k.block _ h.ops.lt)⟩
theorem P8(R:Nat)(ws:List Bs)(c:Nat)(w:World)(h1:1<=ws.length)(h6:ws.length<=6)(hw:∀x∈ws,x.length<=1000000)(hc:∀i (hi:i<ws.length),w.cell? ⟨R,i,none⟩=some (.string (A6 ws[i])))(hcap:ws.length<=c):
 Calls prog 107 #[.slice (some ⟨R,0,none⟩) ws.length c,.string ⟨#[32]⟩] w fun e w'=>e=.returned (.string (A6 (A7 ws)))/\Below w.heap.size w w':=by
 by_cases q:2<=ws.length
 .exact Nx R ws c w q h6 hw hc hcap
 .match ws,h1,hc with
  |[a],_,hc=>exact(KU R (A6 a) c w (hc 0 sM)).mono fun e w' ⟨h1,h2⟩=>⟨h1,by rw[h2];exact BY _⟩
  |a::b::r,_,_=>exact absurd sM q
theorem CR(E WB p0 p1 p2 p3 p4:Nat)(p v:Value)(l:Bs)(R:Nat)(ws:List Bs)(c:Nat)(w:World)(h:FA E WB p0 p1 p2 p3 p4 p v l w)(hl:l.length<=1000000000)(h1:1<=ws.length)(h6:ws.length<=6)(hw:∀x∈ws,x.length<=1000000)(hc:∀i (hi:i<ws.length),w.cell? ⟨R,i,none⟩=some (.string (A6 ws[i])))(hcap:ws.length<=c):
 Calls prog 68 #[.pointer (some ⟨WB,0,none⟩),.slice (some ⟨R,0,none⟩) ws.length c] w fun e w'=>e=.returned (.tuple #[])/\∃p' v',FA E WB p0 p1 p2 p3 p4 p' v' (l++(A7 ws++[10])) w'/\Below E w w'/\Cg WB w w':=by
 have hd:=h.below (A4 w);have hlen:=FI ws 1000000 hw;have HJ:=A3 (P8 R ws c w.drew h1 h6 hw (fun i hi=>hc i hi) hcap);obtain⟨s,hs⟩:=gA (A6 (A7 ws))
 have hbs:bs s=A7 ws:=by rw[<-hs];exact AZ _
 have hsz:s.size=(A7 ws).length:=by rw[<-A9,hbs]
 have hjl:(A7 ws).length<=6000006:=by have:=Nat.mul_le_mul_left 1000001 h6;omega
 rw[hs]at HJ;have HWS:Hid (∀v1,Below w.drew.heap.size w.drew v1->Calls prog 106 #[.pointer (some ⟨WB,0,none⟩),.string s] v1 fun e w'=>e=.returned (.tuple #[.int .i64 (s.size:Int),.nilIface])/\∃v',EE E WB 128 5 (VJ p0 p1 p2 p3 p4) (.pointer (some ⟨WB,0,none⟩)) v' (l++bs s) w'/\Below E v1 w'/\Cg WB v1 w'):=fun v1 k=>DL E WB _ 5 _ _ _ l GO s oM v1 (hd.bd.below k);have HWB:Hid (∀v1 v2,EE E WB 128 5 (VJ p0 p1 p2 p3 p4) (.pointer (some ⟨WB,0,none⟩)) v1 (l++bs s) v2->Calls prog 108 #[.pointer (some ⟨WB,0,none⟩),.int .u8 10] v2 fun e w'=>e=.returned .nilIface/\∃v',EE E WB 128 5 (VJ p0 p1 p2 p3 p4) (.pointer (some ⟨WB,0,none⟩)) v' (l++bs s++[10]) w'/\Below E v2 w'/\Cg WB v2 w'):=fun v1 v2 k=>Ma E WB _ 5 _ _ _ _ GO (by rw[List.length_append,hbs];omega) v2 k;have HX:=A3 (And.intro h hbs);have HE:Hid (E<=w.heap.size):=by have:=h.bd.le;have:=h.bd.row.lt;show _<=_;omega
 obtain⟨N,hN⟩:=gA (ws.length)
 rw[hN]at HJ |-;clear h hd hlen hs hbs hsz hjl hl h1 h6 hw hc hcap hN;go_enter func68,ntmps68;go_upto_region 0 with fail;refine wp_region_held_drew (S:=(fun _=>True)) kR ?_ (fun yH=>?_)
 .trivial
 refine Tc 0 1 2 ?_;refine Bm 3 ?_;clear yH;refine Aw 4 fun K hK=>?_;go_simp;(go_at_call 107;(with_reducible refine HJ.out.mono ?_);rintro e w1 ⟨rfl,b1⟩;have H1:=A3 b1;clear b1);try(go_wp2_with fail)
 refine hK.out _ _ ?_ (fun yH=>?_)
 .trivial
 clear hK K;try simp only[Act.put,List.setIfInBounds_toArray,List.set_cons_zero,List.set_cons_succ]
 clear yH;refine Aw 5 fun K hK=>?_;go_simp;(go_at_call 106;(with_reducible refine(HWS.out _ H1.out).mono ?_);rintro e w2 ⟨rfl,v2,h2,b2,k2⟩;have H2:=A3 (And.intro h2 (And.intro b2 k2));clear h2 b2 k2);try(go_wp2_with fail)
 refine hK.out _ _ ?_ (fun yH=>?_)
 .trivial
 clear hK K;try simp only[Act.put,List.setIfInBounds_toArray,List.set_cons_zero,List.set_cons_succ]
 refine wpAnyH_done kR ?_ _;go_wp2_with(go_at_call 108;(with_reducible refine(HWB.out _ _ H2.out.1).mono ?_);rintro e w3 ⟨rfl,v3,h3,b3,k3⟩;have H3:=A3 (And.intro h3 (And.intro b3 k3));clear h3 b3 k3);refine bodyPost_end (by simp[results,results68,go_sem, *];try rfl) rfl ?_;have hk:Cg WB w w3:=(((Cg.of (A4 w)).trans (Cg.of H1.out)).trans H2.out.2.2).trans H3.out.2.2;have hb:Below E w w3:=((((A4 w).mono HE.out).trans (H1.out.mono HE.out)).trans H2.out.2.1).trans H3.out.2.1;refine⟨rfl,.pointer (some ⟨WB,0,none⟩),v3,HX.out.1.keep hk ?_,hb,hk⟩;have h9:=H3.out.1;rw[HX.out.2,List.append_assoc]at h9;exact h9
theorem M9{t:Ty}(h:EC t):(A7 (AS t)).length<=20:=by
 rcases h with⟨h1,-⟩|⟨h1,-⟩|⟨h1,h2,h3⟩
 .unfold AS;rw[if_pos h1];decide
 .unfold AS;rw[if_neg oM,if_pos h1];decide
 .unfold AS;rw[if_neg oM,if_neg oM];have:(An t.par).length<=10:=Bg h3;show(AW++32::An t.par).length<=20;rw[List.length_append,List.length_cons,show AW.length=6 from rfl];omega
theorem GD(E WB p0 p1 p2 p3 p4:Nat)(p v:Value)(l:Bs)(t:Ty)(ht:EC t)(w:World)(hL:BL w)(h:FA E WB p0 p1 p2 p3 p4 p v l w):
 Calls prog 70 #[.pointer (some ⟨WB,0,none⟩),.agg #[.int .i64 t.kind,.int .i64 t.par]] w fun e w'=>e=.returned (.string (A6 (A7 (AS t))))/\Below w.heap.size w w':=by
 obtain⟨kd,par⟩:=t;obtain⟨V,hV⟩:=gA (w.alloc (.cells #[.int .i64 kd,.int .i64 par] 43))
 obtain⟨X,hX⟩:=gA (w.heap.size)
 have hb0:Below w.heap.size w V:=by rw[<-hV];exact A2 _ _
 have hr:V.rowIs X 43 2 (g2 (.int .i64 kd) (.int .i64 par)):=by rw[<-hV,<-hX];exact BJ _ _ _ _
 have hv:=h.below hb0;have HLV:=A3 (hL.below hb0);have HB0:=A3 hb0;obtain⟨x0,x1⟩:=Rz hr;have t0:V.cell? ⟨WB,4,none⟩=some (.slice (some ⟨p2,0,none⟩) 4 4):=hv.bd.row.cell (i:=4) dE;have hrow:=hv.types;have hok:EC ⟨kd,par⟩:=ht;by_cases q:kd=3
 .subst q;have a0':=hrow.cell (i:=3) dE;obtain⟨A,hA⟩:=gA (A6 ((CC[3]?).getD []))
  have a0:V.cell? ⟨p2,3,none⟩=some (.string A):=by rw[<-hA];exact a0'
  obtain⟨h2,h3⟩:0<=par/\par<=2147483647:=by
   rcases hok with⟨e,_⟩|⟨e,_⟩|⟨_,e⟩
   .cases e
   .cases e
   .exact e
  obtain⟨B,hB⟩:=gA (A6 (Lib.itoa par))
  have hni:Lib.itoa par=An par:=C0 h2;have HN:Hid (∀x,BL x->Calls prog 69 #[.int .i64 par] x fun e w'=>e=.returned (.string B)/\Below x.heap.size x w'):=fun x hx=>by rw[<-hB];exact Ci par oM oM x hx
  have sA:A.size=6:=by rw[<-hA];rfl
  have sB:B.size<=10:=by rw[<-hB,hni,<-A9,AZ];exact Bg h3
  have s1:¬9223372036854775807<A.size+1:=by rw[sA];decide
  have s2:¬9223372036854775807<A.size+1+B.size:=by rw[sA];omega
  have HR:Hid ((A++(⟨#[32]⟩:ByteArray))++B=A6 (A7 (AS ⟨3,par⟩))):=by
   show _=_;rw[<-hA,<-hB,hni];show(A6 AW++A6 [32])++A6 (An par)=A6 (AW++32::An par);rw[B4,B4];simp
  clear hA hB hni sA sB hrow hv h hL hb0 hr ht hok a0' h2 h3;have y0:V.drew.cell? ⟨WB,4,none⟩=some (.slice (some ⟨p2,0,none⟩) 4 4):=t0;have y1:V.drew.cell? ⟨X,0,none⟩=some (.int .i64 3):=x0;have y2:V.drew.cell? ⟨X,1,none⟩=some (.int .i64 par):=x1;have y3:V.drew.cell? ⟨p2,3,none⟩=some (.string A):=a0;go_enter func70,ntmps70;go_upto_region 1 with fail;try rw[hV]
  try rw[hX]
  clear hV hX;go_upto_region 2 with fail;refine rG (fun v=>v.cell? ⟨WB,4,none⟩=some (.slice (some ⟨p2,0,none⟩) 4 4)/\v.cell? ⟨X,0,none⟩=some (.int .i64 3)/\v.cell? ⟨X,1,none⟩=some (.int .i64 par)/\v.cell? ⟨p2,3,none⟩=some (.string A)) fun yH=>?_;refine Tf 0 1 2 3 4 5 ?_;refine Tc 6 7 8 ?_;refine Tb 9 10 ?_;clear yH;refine Aw 11 fun K hK=>?_;go_simp;(go_at_call 69;(with_reducible refine(HN.out _ (HLV.out.below (A4 V))).mono ?_);rintro e w2 ⟨rfl,b2⟩;have b3:=bel (A4 V) b2;have HB2:=A3 b3;have d0:=kc b3 t0;have d1:=kc b3 x0;have d2:=kc b3 x1;have d3:=kc b3 a0;clear b2 b3);try(go_wp2_with fail)
  refine AT hK fun yH=>?_;clear hK K;refine Tb 12 13 ?_;refine wpAnyH_done kR ?_ _;try go_wp2
  refine bodyPost_ret (by simp[results,results70,go_sem, *];try rfl) rfl ?_;exact⟨by rw[<-HR.out],bel HB0.out HB2.out⟩
 .obtain⟨k,hk,hk2⟩:∃k:Nat,kd=(k:Int)/\(k=1\/k=2):=by
   rcases hok with⟨e,_⟩|⟨e,_⟩|⟨e,_⟩
   .exact⟨1,e,.inl rfl⟩
   .exact⟨2,e,.inr rfl⟩
   .exact absurd e q
  subst hk;have hk4:k<4:=oM;have a0':=hrow.cell (i:=k) hk4;obtain⟨A,hA⟩:=gA (A6 ((CC[k]?).getD []))
  have a0:V.cell? ⟨p2,k,none⟩=some (.string A):=by rw[<-hA];exact a0'
  have HR:Hid (A=A6 (A7 (AS ⟨(k:Int),par⟩))):=by
   show _=_;rw[<-hA];rcases hk2 with rfl|rfl<;>rfl
  have e3:((k:Int)==3)=false:=by simpa using q
  have k0:(0:Int)<=(k:Int):=oM;have k4:(k:Int)<4:=oM;clear hA hrow hv h hL hb0 hr ht hok a0' q hk2;have y0:V.drew.cell? ⟨WB,4,none⟩=some (.slice (some ⟨p2,0,none⟩) 4 4):=t0;have y1:V.drew.cell? ⟨X,0,none⟩=some (.int .i64 (k:Int)):=x0;have y2:V.drew.cell? ⟨X,1,none⟩=some (.int .i64 par):=x1;have y3:V.drew.cell? ⟨p2,k,none⟩=some (.string A):=a0;go_enter func70,ntmps70;go_upto_region 1 with fail;try rw[hV]
  try rw[hX]
  clear hV hX;go_upto_region 3 with fail;refine rG (fun v=>v.cell? ⟨WB,4,none⟩=some (.slice (some ⟨p2,0,none⟩) 4 4)/\v.cell? ⟨X,0,none⟩=some (.int .i64 (k:Int))/\v.cell? ⟨X,1,none⟩=some (.int .i64 par)/\v.cell? ⟨p2,k,none⟩=some (.string A)) fun yH=>?_;refine Tf 0 1 2 3 4 5 ?_;refine Tc 6 7 8 ?_;refine wpAnyH_done kR ?_ _;try go_wp2
  refine bodyPost_ret (by simp[results,results70,go_sem, *];try rfl) rfl ?_;exact⟨by rw[<-HR.out],bel HB0.out (A4 V)⟩
end Go.Proofs.YtjlpkjblkllfbaaGreatDoor
