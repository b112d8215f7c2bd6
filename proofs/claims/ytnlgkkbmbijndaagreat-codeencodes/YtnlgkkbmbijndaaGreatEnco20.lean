import Derived.Test.YtnlgkkbmbijndaaGreatEnco17
import Derived.Deep.DeepCutAuto
import Derived.Lib.ConvBytes
import Derived.Test.YtnlgkkbmbijndaaGreatEnco13
import Derived.Test.YtnlgkkbmbijndaaGreatEnco2
import Derived.Test.YtnlgkkbmbijndaaGreatEnco15
import Derived.Laws.IdiomStrings
import Derived.Test.YtnlgkkbmbijndaaGreatEnco1
namespace Go.Proofs.YtnlgkkbmbijndaaGreat
open Go.RowKit Go.Proofs.Tryz
set_option linter.all false
set_option maxRecDepth 100000
set_option maxHeartbeats 16000000
theorem Jl:∀op:Nat,op<38->1<=op->(I4 op=true->He op=true)/\(He op=true->I3 op=true):=by decide+kernel
def Lu(i:AB)(o:Nat):Int:=if o=1 then i.d else if o=2 then i.a else if o=3 then i.b else if o=4 then i.c else i.n
theorem Jb{i:AB}(O:Nat)(hO:i.op=(O:Int)):Cz i=((if Iy O=true then [1]else [])++[2,3,4].take ((if I3 O=true then 1 else 0)+(if He O=true then 1 else 0)+(if I4 O=true then 1 else 0)))++(if Ft O=true then [5]else []):=by
 have hd:((Ad i.op).d != 0)=Iy O:=by rw[hO];unfold Iy;by_cases h:(Ad (O:Int)).d=0<;>simp[h]
 have hr:(AJ i (Ad i.op)).length=(if I3 O=true then 1 else 0)+(if He O=true then 1 else 0)+(if I4 O=true then 1 else 0):=by
  rw[hO];unfold AJ I3 He I4;by_cases h1:(Ad (O:Int)).a=0<;>by_cases h2:(Ad (O:Int)).b=0<;>by_cases h3:(Ad (O:Int)).c=0<;>simp[h1,h2,h3]
 unfold Cz;rw[hd,hr,hO,Int.toNat_natCast]
theorem H3{i:AB}(h1:1<=i.op)(h2:i.op<=37):Bf i=([i.op.toNat]++(Cz i).flatMap (fun o=>Ak (Lu i o).toNat))++EB i.op.toNat i.bits:=by
 obtain⟨O,hO⟩:∃O:Nat,i.op=(O:Int):=⟨i.op.toNat,oM⟩
 obtain⟨a1,a2⟩:=Jl O oM oM;rw[Jb O hO];unfold Bf Bt;rw[hO,Int.toNat_natCast];generalize Iy O=D at *;generalize I3 O=A at *;generalize He O=B at *;generalize I4 O=C at *;generalize Ft O=N at *;cases A<;>cases B<;>cases C<;>simp at a1 a2<;>cases D<;>cases N<;>simp[Lu]
theorem LJ{i:AB}(h:CJ i):∀o∈Cz i,1<=o/\o<=5/\0<=Lu i o/\Lu i o<9223372036854775808:=by
 obtain⟨h1,h2,⟨d1,d2,-⟩,⟨b1,b2,-⟩,⟨c1,c2,-⟩,⟨e1,e2,-⟩,⟨n1,n2,-⟩,-⟩:=h;obtain⟨O,hO⟩:∃O:Nat,i.op=(O:Int):=⟨i.op.toNat,oM⟩
 intro o ho;rw[Jb O hO]at ho;have hm:o=1\/o=2\/o=3\/o=4\/o=5:=by
  exact Rp
 rcases hm with rfl|rfl|rfl|rfl|rfl<;>simp[Lu]<;>omega
theorem Gu(i:AB):(Cz i).length<=5:=by
 unfold Cz;rw[List.length_append,List.length_append,List.length_take];have h1:(if(Ad i.op).d != 0 then [1]else []:List Nat).length<=1:=by split<;>simp
 have h2:(if Ft i.op.toNat=true then [5]else []:List Nat).length<=1:=by split<;>simp
 have h3:min (AJ i (Ad i.op)).length ([2,3,4]:List Nat).length<=3:=Nat.min_le_right _ _;omega
theorem Nh(E WB:Nat)(l:List Nat)(v:Value)(w:World)(h:Bc E WB l v w)(i:AB)(hi:CJ i)(hl:l.length+100<=100000000):
 Calls prog 47 #[.pointer (some ⟨WB,0,none⟩),.agg #[.int .i64 i.op,.int .i64 i.d,.int .i64 i.a,.int .i64 i.b,.int .i64 i.c,.int .i64 i.n,.int .u32 i.bits]] w fun e w'=>e=.returned (.tuple #[])/\Below E w w'/\∃v',Bc E WB (l++Bf i) v' w'/\Ba WB v w v' w':=by
 have hEI:=H3 hi.1 hi.2.1;have hFO:=LJ hi;have hFL:=Gu i;have KF:Hid (∀ (X:Nat) (u:World),Aj u X 0 (BR i)->Calls prog 81 #[.pointer (some ⟨X,0,none⟩)] u fun e w'=>∃q d,e=.returned (.slice q (Cz i).length d)/\w'.ownsRow u.heap.size 154 1 (.slice q (Cz i).length d) (Cz i).length (CY X (Cz i))/\Below u.heap.size u w'):=fun X u a=>Fm X i hi.1 hi.2.1 u a;obtain⟨F,hF⟩:=gA (Cz i)
 obtain⟨EI,hEN⟩:∃z,Bf i=z:=⟨_,rfl⟩
 obtain⟨f,hf⟩:=gA (Lu i)
 simp only[hF,hEN,hf]at KF hEI hFO hFL |-;have hC:∀ (u:World) (X:Nat),Aj u X 0 (BR i)->∀o,1<=o->o<=5->u.cell? ⟨X,o,none⟩=some (.int .i64 (f o)):=fun u X hc o h1 h2=>by
  rw[<-hf];rcases(show o=1\/o=2\/o=3\/o=4\/o=5 by omega)with rfl|rfl|rfl|rfl|rfl
  .have:=hc.at 1 (v:=.int .i64 i.d) rfl;simpa[Lu]using this
  .have:=hc.at 2 (v:=.int .i64 i.a) rfl;simpa[Lu]using this
  .have:=hc.at 3 (v:=.int .i64 i.b) rfl;simpa[Lu]using this
  .have:=hc.at 4 (v:=.int .i64 i.c) rfl;simpa[Lu]using this
  .have:=hc.at 5 (v:=.int .i64 i.n) rfl;simpa[Lu]using this
 obtain⟨op,d,a,b,c,n,z⟩:=i;obtain⟨h1,h2,-,-,-,-,-,z1,z2,z3⟩:=hi;simp only at h1 h2 z1 z2 z3 hEI |-;obtain⟨O,hO⟩:∃O:Nat,op=(O:Int):=⟨op.toNat,oM⟩
 obtain⟨Z,hZ⟩:∃O:Nat,z=(O:Int):=⟨z.toNat,oM⟩
 subst hO hZ;simp only[Int.toNat_natCast]at hEI z3;have HC:=A6 hC;obtain⟨V,hV⟩:=gA (w.alloc (.cells #[.int .i64 (O:Int),.int .i64 d,.int .i64 a,.int .i64 b,.int .i64 c,.int .i64 n,.int .u32 (Z:Int)] 70))
 have hb0:Below w.heap.size w V:=by rw[<-hV];exact A5 _ _
 have hs0:V.heap.size=w.heap.size+1:=by rw[<-hV];simp
 obtain⟨X,hX⟩:=gA (w.heap.size)
 have hcV:∀k x,(BR ⟨(O:Int),d,a,b,c,n,(Z:Int)⟩)[k]? =some x->V.cell? ⟨X,k,none⟩=some x:=fun k x hx=>by
  rw[<-hV,<-hX];have hk:k<7:=(List.getElem?_eq_some_iff.1 hx).1;rcases(show k=0\/k=1\/k=2\/k=3\/k=4\/k=5\/k=6 by omega)with rfl|rfl|rfl|rfl|rfl|rfl|rfl<;>simp[BR]at hx<;>subst hx<;>simp[go_sem]
 have HXC:Hid (∀u:World,u.heap[X]? =V.heap[X]? ->Aj u X 0 (BR ⟨(O:Int),d,a,b,c,n,(Z:Int)⟩)):=fun u hu=>by
  intro k hk;rw[Nat.zero_add];exact(gC hu (a:=⟨X,k,none⟩)).trans (hcV k _ (gB hk))
 have x0:V.cell? ⟨X,0,none⟩=some (.int .i64 (O:Int)):=hcV 0 _ rfl;have HX0:Hid (∀u:World,u.heap[X]? =V.heap[X]? ->u.cell? ⟨X,0,none⟩=some (.int .i64 (O:Int))/\u.cell? ⟨X,6,none⟩=some (.int .u32 (Z:Int))):=fun u hu=>⟨(gC hu (a:=⟨X,0,none⟩)).trans (hcV 0 _ rfl),(gC hu (a:=⟨X,6,none⟩)).trans (hcV 6 _ rfl)⟩
 have h0:=h.below hb0;have HXN:Hid (X<V.heap.size/\X≠WB/\v.ownBlock≠some X):=⟨oM,by have:=h.b.lt;omega,fun e=>by have:=(h.o.lt _ e).2;omega⟩
 have KS:=A6 (Cs E WB l v V h0 oM O oM);have KN:=A6 (fun(m:List Nat) (v:Value) (u:World) (a:Bc E WB m v u) (n:Nat) (hn:n<9223372036854775808) (b:m.length+9<=100000000)=>Bm E WB m v u a n hn (by have:=Al hn;omega));have KX:Hid (∀ (m:List Nat) (v:Value) (u:World),Bc E WB m v u->m.length+4<=100000000->Calls prog 18 #[.pointer (some ⟨WB,0,none⟩),.int .u64 (Z:Int),.int .i64 4] u fun e w'=>e=.returned (.tuple #[])/\Below E u w'/\∃v',Bc E WB (m++AK 4 Z) v' w'/\Ba WB v u v' w'):=fun m v u a b=>E4 E WB m v u a Z oM 4 oM b;have HBE:Hid (Below E w V):=hb0.mono h.le;have HOV:Hid (∀v' w',Ba WB v V v' w'->Ba WB v w v' w'):=fun v' w' q=>Ba.below h hb0 q;have wZ:IntKind.u64.wrap (Z:Int)=(Z:Int):=by unfold IntKind.wrap;simp[IntKind.signed,IntKind.bits];omega
 have HFO:=A6 hFO;obtain⟨N,hN⟩:=gA (F.length)
 have HFN:=A6 hN;have HN5:Hid (N<=5):=by show N<=5;omega
 obtain⟨g,hg⟩:=gA ((fun o=>Ak (f o).toNat))
 have HG:Hid (∀o,g o=Ak (f o).toNat):=fun o=>by rw[<-hg]
 have HLN:Hid (∀k,((l++[O])++(F.take k).flatMap g).length+20<=100000000):=fun k=>by
  have h1:=B9 (e:=g) (m:=9) (F.take k) (fun x hx=>by rw[HG.out];exact Al (by have:=HFO.out x (List.mem_of_mem_take hx);omega));rw[List.length_take]at h1;rw[List.length_append,List.length_append,List.length_singleton];have h2:min k F.length<=5:=oM;omega
 have HFM:=A6 (fun(k:Nat) (hk:k<F.length)=>BA g hk);rw[hg]at hEI;have HEI:=A6 hEI;have HO37:Hid (O<=37):=by show O<=37;omega
 simp only[hN]at KF;clear h h0 hb0 hs0 z1 z2 z3 hl hC hcV hEI hFO hg hF hEN hf hN hFL h1 h2;go_enter func47,ntmps47;go_upto_region 1 with fail;try rw[hV]
 try rw[hX]
 clear hV hX;go_upto_region 2 with(go_at_call 80;(with_reducible refine KS.out.mono ?_);rintro e9 w4 ⟨rfl,hb4,v4,hm4,ho4⟩;have HB4:=A6 hb4;have HM4:=A6 hm4;have HO4:=A6 ho4;clear hb4 hm4 ho4)
 obtain⟨hX4,hv4⟩:=HO4.out.2 X HXN.out.1 HXN.out.2.1 HXN.out.2.2;have KF4:=A6 (KF.out X w4 (HXC.out w4 hX4));have HX4:=A6 (And.intro hX4 hv4);have HXL:Hid (X<w4.heap.size):=Nat.lt_of_lt_of_le HXN.out.1 HO4.out.1;clear x0 hX4 hv4 KS KF;go_upto_block 0 with(go_at_call 81;(with_reducible refine KF4.out.mono ?_);rintro e9 w5 ⟨q,dd,rfl,ho5,hb5⟩;have HB5:=A6 hb5;have HF5:=A6 ho5;clear hb5 ho5)
 have HM5:=A6 (HM4.below HB5.out);have HX5:Hid (w5.heap[X]? =V.heap[X]?):=(HB5.block X HXL.out).trans HX4.1;have HXL5:Hid (X<w5.heap.size):=Nat.lt_of_lt_of_le HXL.out HB5.size;have HPC:Hid (∀ (u:World) (v':Value),Ba WB v4 w5 v' u->∀k (hk:k<F.length),∃gb,q=some ⟨gb,0,none⟩/\u.cell? ⟨gb,k,none⟩=some (.pointer (some ⟨X,F[k],none⟩))):=fun u v' ho k hk=>by
  have hF5:=HF5.out;rcases hF5.2 with⟨e1,e2⟩|⟨gb,cap,cur,e1,-,-⟩
  .exact absurd e2 (by have:=HFN.out;omega)
  .simp only[Value.slice.injEq]at e1;have hq:q=some ⟨gb,0,none⟩:=e1.1;have hob:(Value.slice q N dd).ownBlock=some gb:=by rw[hq];rfl
   have hlt:=hF5.lt gb hob;have hc:=hF5.cells hob k (.pointer (some ⟨X,F[k],none⟩)) (by simp[CY,hk]);have hadd:(⟨gb,0,none⟩:Addr).add k=⟨gb,k,none⟩:=by unfold Addr.add;split<;>simp_all
   rw[hadd]at hc;have hfr:=(ho.2 gb hlt.2 (fun e=>by have:=HM4.b.lt;omega) (fun e=>by have:=(HM4.o.lt gb e).2;omega)).1;exact⟨gb,hq,(gC hfr (a:=⟨gb,k,none⟩)).trans hc⟩
 have HXF:Hid (∀ (u:World) (v':Value),Ba WB v4 w5 v' u->u.heap[X]? =V.heap[X]?):=fun u v' ho=>(ho.2 X HXL5.out HXN.2.1 HX4.2).1.trans HX5.out;have HJ0:Hid (Below E w5 w5/\∃v',Bc E WB ((l++[O])++(F.take 0).flatMap g) v' w5/\Ba WB v4 w5 v' w5):=⟨Below.refl _ _,v4,(by rw[List.take_zero,List.flatMap_nil,List.append_nil];exact HM5.out),Ba.refl _ _ _⟩
 have HB05:Hid (Below E w w5):=(HBE.trans HB4.out).trans (HB5.mono HM4.le);have HO05:Hid (∀v' w',Ba WB v4 w5 v' w'->Ba WB v w v' w'):=fun v' w' z=>HOV.out _ _ (HO4.trans (Ba.below HM4.out HB5.out z));clear HF5 HM5 HX5 HXL5 HBE HB4 HB5 HOV HO4 HM4 HX4 HXL HXN KF4;go_wp2_with fail
 go_loopw [12] (fun iv wx=>∃k:Nat,k<=N/\iv=.int .i64 (k:Int)/\Hid (Below E w5 wx/\∃v',Bc E WB ((l++[O])++(F.take k).flatMap g) v' wx/\Ba WB v4 w5 v' wx)) (fun iv _=>N-(intOf iv).toNat)
 case atStart=>exact⟨0,gI _,rfl,HJ0.out⟩
 case round=>
  clear HJ0;obtain⟨k,hk,rfl,HJ⟩:=hrel;by_cases hlt:k<N
  .have hkl:k<F.length:=by have:=HFN.out;omega
   obtain⟨hb,v2,hm,ho⟩:=HJ.out;obtain⟨gb,rfl,pc⟩:=HPC.out wr v2 ho k hkl;have hok:=HFO.out F[k] (gD hkl);have hfm:=HFM.out k hkl;have pv:=HC.out wr X (HXC.out wr (HXF.out wr v2 ho)) F[k] hok.1 hok.2.1;obtain⟨o,hoe⟩:=gA (F[k])
   rw[hoe]at pc hok hfm pv;obtain⟨m,hmm⟩:∃m:Nat,f o=(m:Int):=⟨(f o).toNat,oM⟩
   rw[HG.out]at hfm;rw[hmm]at pv hok hfm;rw[Int.toNat_natCast]at hfm;have KN4:=A6 (KN.out _ v2 wr hm m oM (by have:=HLN.out k;omega));have HFM':=A6 hfm;have HBV:=A6 hb;have HOV:=A6 ho;have i1:(0:Int)<=(k:Int):=oM;have i2:(k:Int)<(N:Int):=oM;have wi:IntKind.i64.wrap ((k:Int)+1)=((k+1:Nat):Int):=by have:=HN5.out;rw[IntKind.wrap_i64];omega
   clear hb hm ho hok hfm hoe hmm HJ;go_wp2_with(go_at_call 79;(with_reducible refine KN4.out.mono ?_);rintro e9 w6 ⟨rfl,hb6,v6,hm6,ho6⟩;have HQ:Hid (Below E w5 w6/\∃v',Bc E WB ((l++[O])++(F.take (k+1)).flatMap g) v' w6/\Ba WB v4 w5 v' w6):=⟨HBV.out.trans hb6,v6,(by rw[HFM'.out,<-List.append_assoc];exact hm6),HOV.out.trans ho6⟩;clear hb6 hm6 ho6);exact PA
  .have e1:¬ (k:Int)<(N:Int):=oM;have hall:F.take k=F:=List.take_of_length_le (by have:=HFN.out;omega);obtain⟨hb,v2,hm,ho⟩:=HJ.out;have hln:=HLN.out k;rw[hall]at hm hln;obtain⟨y0,y6⟩:=HX0.out wr (HXF.out wr v2 ho);have HBV:=A6 hb;have HMV:=A6 hm;have HOV:=A6 ho;have HLL:=A6 hln;clear hlt hall HJ hb hm ho hln;by_cases q1:O=1
   .have q3:((O:Int)==1)=true:=sO;have HT:Hid (l++EI=((l++[O])++F.flatMap g)++AK 4 Z):=by
     show _=_;rw[HEI.out];unfold EB;rw[if_pos q1,Int.toNat_natCast];simp
    have KX4:=A6 (KX.out _ _ _ HMV.out (by have:=HLL.out;omega));clear q1;go_wp2_with(go_at_call 18;(with_reducible refine KX4.out.mono ?_);rintro e9 w6 ⟨rfl,hb6,v6,hm6,ho6⟩;have HB6:=A6 hb6;have HM6:=A6 hm6;have HO6:=A6 ho6;clear hb6 hm6 ho6);first|go_end0|refine bodyPost_ret (results_none rfl _ _ _) rfl ?_|(simp only[Exit.inBlock,Exit.then];refine bodyPost_ret (results_none rfl _ _ _) rfl ?_)
    refine⟨rfl,(HB05.trans HBV.out).trans HB6.out,v6,?_,HO05.out _ _ (HOV.trans HO6.out)⟩;rw[HT.out];exact HM6.out
   .have q3:((O:Int)==1)=false:=sO;have HT:Hid (l++EI=(l++[O])++F.flatMap g):=by
     show _=_;rw[HEI.out];unfold EB;rw[if_neg q1];simp
    clear q1;go_wp2;first|go_end0|refine bodyPost_ret (results_none rfl _ _ _) rfl ?_|(simp only[Exit.inBlock,Exit.then];refine bodyPost_ret (results_none rfl _ _ _) rfl ?_)
    refine⟨rfl,HB05.trans HBV.out,v2,?_,HO05.out _ _ HOV.out⟩;rw[HT.out];exact HMV.out
theorem If(t:ByteArray)(w:World):∃g cap w',(convert 9 49 (.string t)).run prog w=.ok (.slice (some ⟨g,0,none⟩) t.size cap) w'/\Below w.heap.size w w'/\∀j (hj:j<t.size),w'.cell? ⟨g,j,none⟩=some (.int .u8 (t[j].toNat:Int)):=by
 refine⟨w.heap.size,_,_,Go.Lib.run_convert_string_bytes w _ _ 5 t underlying9 underlying49 underlying5,⟨rfl,rfl,rfl,?_,fun k hk=>Go.Lib.bytesWorld_at_old _ _ _ k hk⟩,fun j hj=>?_⟩
 .rw[Go.Lib.bytesWorld_size];omega
 .rw[Go.Lib.bytesWorld_cell _ _ _ j hj];have hj':j<t.data.size:=hj;have h9:t.data.toList.getD j 0=t[j]:=by rw[List.getD,Array.getElem?_toList,Array.getElem?_eq_getElem hj'];rfl
  rw[h9]
theorem Hc:∀ (l:List Nat) (b:Nat),BS (l++[b])=BS l+256^l.length*b
 |[],b=>by simp[BS]
 |a::l,b=>by
  show a+256*BS (l++[b])=a+256*BS l+256^(l.length+1)*b;rw[Hc l b,Nat.pow_succ,Nat.mul_add,Nat.add_assoc,Nat.mul_comm (256^l.length) 256,Nat.mul_assoc]
theorem PD{x y:Nat}(hx:x<2^64)(hy:y<2^64):bits .or .u64 (x:Int) (y:Int)=((x|||y:Nat):Int):=by
 have h:(BitVec.ofInt 64 (x:Int)|||BitVec.ofInt 64 (y:Int)).toNat=x|||y:=by
  rw[BitVec.toNat_or];simp only[BitVec.ofInt_natCast,BitVec.toNat_ofNat];rw[Nat.mod_eq_of_lt hx,Nat.mod_eq_of_lt hy]
 have h2:x|||y<2^64:=Nat.or_lt_two_pow hx hy
 show IntKind.u64.wrap (((BitVec.ofInt 64 (x:Int)|||BitVec.ofInt 64 (y:Int)).toNat:Nat):Int)=_;exact QL
theorem NY{n g k:Nat}(hn:n<256^k):n|||g*256^k=n+256^k*g:=by
 have e:(256:Nat)^k=2^(8*k):=by rw[Nat.pow_mul]
 rw[e]at hn |-;rw[Nat.or_comm,Nat.mul_comm g,<-Nat.two_pow_add_eq_or_of_lt hn,Nat.add_comm]
theorem CF(s:ByteArray)(A n:Nat):Aa (s.extract A (A+n))=((Aa s).drop A).take n:=by
 unfold Aa;rw[ByteArray.data_extract,Array.toList_extract];simp[List.extract,List.map_take,List.map_drop]
theorem G8(E RB:Nat)(s:ByteArray)(A c:Nat)(hc8:c<=8)(w:World)(h:Bq E RB s A w)(hA:A<=s.size)(hs:s.size<=140737488355328)(hE:E<=w.heap.size):
 Calls prog 58 #[.pointer (some ⟨RB,0,none⟩),.int .i64 (c:Int)] w (AV E RB s w (fun(b:Nat)=>.int .u64 (b:Int)) (Cc c ((Aa s).drop A) A)):=by
 by_cases hlt:s.size<A+c
 .have KT:Hid (Calls prog 83 #[.pointer (some ⟨RB,0,none⟩),.int .i64 (c:Int)] w fun e w'=>e=AY 242 A/\Below w.heap.size w w'):=FK E RB s A c w h hA hs oM hlt;have HP:Hid (Cc c ((Aa s).drop A) A=.error (242,A)):=by
   show Cc _ _ _=_;unfold Cc Ac By;rw[if_pos Qn]
  rw[HP.out];have HEW:=A6 hE;unfold AV AY;unfold AY at KT;simp only;clear h hlt HP;go_enter func58,ntmps58;exact Rv
 .obtain⟨t,ht⟩:=gA (s.extract A (A+c))
  have KT:=GL E RB s A c w h hs oM hE;rw[ht]at KT;have KT':=A6 KT;have htb:Aa t=((Aa s).drop A).take c:=by rw[<-ht,CF]
  have hsz:t.size=c:=by rw[<-AD,htb,List.length_take,List.length_drop,AD];omega
  have HP:Hid (Cc c ((Aa s).drop A) A=.ok (BS (Aa t),(Aa s).drop (A+c),A+c)):=by
   show Cc _ _ _=_;unfold Cc Ac By Ay;rw[if_neg Qn];simp only[htb,List.drop_drop]
  rw[HP.out];have HFIN:Hid (∀ (e:Ending) (w':World),e=.returned (.int .u64 ((BS (Aa t):Nat):Int))->Below E w w'->AZ RB w w'->Bq E RB s (A+c) w'->AV E RB s w (fun(b:Nat)=>Value.int .u64 (b:Int)) (.ok (BS (Aa t),(Aa s).drop (A+c),A+c)) e w'):=fun e w' a b c' d=>⟨a,b,c',d,oM,rfl⟩
  have HBT:=A6 (E9 t);have HTL:Hid ((Aa t).length=c):=by show _=_;rw[AD];exact hsz
  have HAT:Hid (∀j (hj:j<t.size),(Aa t).take (j+1)=(Aa t).take j++[t[j].toNat]):=fun j hj=>by
   have h1:j<(Aa t).length:=by rw[AD];exact hj
   rw[List.take_succ_eq_append_getElem h1];congr 2;simp[Aa];rfl
  have KCV:=A6 (If t);have HSZ:=A6 hsz;clear h hlt HP htb ht KT hsz;go_enter func58,ntmps58;go_upto_block 0 with(go_at_call 83;(with_reducible refine KT'.out.mono ?_);rintro e9 w4 ⟨rfl,hb4,hm4,ho4⟩;have HB4:=A6 hb4;have HM4:=A6 hm4;have HO4:=A6 ho4;clear hb4 hm4 ho4;obtain⟨g,cap,w5,hr5,hb5,hc5⟩:=KCV.out w4;rw[HSZ.out]at hr5;have HB5:=A6 hb5;have HC5:=A6 hc5;clear hb5 hc5)
  have HR:Hid (Below E w w5/\AZ RB w w5/\Bq E RB s (A+c) w5):=⟨HB4.trans (HB5.mono (gH hE HO4.1)),HO4.trans (AZ.of HB5.out),HM4.below HB5.out⟩
  clear hr5 HB4 HM4 HO4 HB5 KCV KT' hE hA hs;go_wp2_with fail
  go_loopw [5,13] (fun nv iv wx=>wx=w5/\∃j n:Nat,j<=c/\iv=.int .i64 (j:Int)/\nv=.int .u64 (n:Int)/\Hid (n=BS ((Aa t).take j))) (fun _ iv _=>c-(intOf iv).toNat)
  case atStart=>exact⟨rfl,0,0,gI _,rfl,rfl,rfl⟩
  case round=>
   obtain⟨rfl,j,n,hj,rfl,rfl,HN⟩:=hrel;by_cases hlt:j<c
   .have e1:(j:Int)<(c:Int):=oM;have i1:(0:Int)<=(j:Int):=oM;have hjt:j<t.size:=by rw[HSZ.out];exact hlt
    have c5:=HC5.out j hjt;have hA1:=HAT.out j hjt;obtain⟨B,hB⟩:=gA (t[j].toNat)
    have hB2:B<256:=by rw[<-hB];exact t[j].toNat_lt
    rw[hB]at c5 hA1;have hln:((Aa t).take j).length=j:=by rw[List.length_take,HTL.out];omega
    have hn:n<256^j:=by
     have h9:=Gx ((Aa t).take j) (fun b hb=>HBT.out b (List.mem_of_mem_take hb));rw[hln,<-HN.out]at h9;exact h9
    have hpw:256^j*256<=2^64:=by
     rw[<-Nat.pow_succ,show(2:Nat)^64=256^8 by decide];exact Nat.pow_le_pow_right dE oM
    obtain⟨T,hT⟩:=gA (B*256^j)
    have hT1:T<2^64:=by
     have h9:(B+1)*256^j<=256*256^j:=Nat.mul_le_mul_right _ oM;rw[Nat.add_mul,hT]at h9;have h8:0<256^j:=Nat.pow_pos dE;omega
    obtain⟨M,hM⟩:=gA (n+256^j*B)
    have hor:bits .or .u64 (n:Int) (T:Int)=(M:Int):=by rw[PD oM hT1,<-hT,NY hn,hM]
    have HM2:Hid (M=BS ((Aa t).take (j+1))):=by show M=_;rw[hA1,Hc,hln,<-HN.out,hM]
    have t2:IntKind.u64.wrap (B:Int)=(B:Int):=by unfold IntKind.wrap;simp[IntKind.signed,IntKind.bits];omega
    have w8:IntKind.i64.wrap (8*(j:Int))=((8*j:Nat):Int):=by rw[IntKind.wrap_i64];omega
    have hsh:(B:Int)*2^(8*j)=(T:Int):=by
     rw[<-hT,show(256:Nat)^j=2^(8*j) by rw[Nat.pow_mul],Int.natCast_mul,Int.natCast_pow];rfl
    have t3:IntKind.u64.wrap (T:Int)=(T:Int):=by unfold IntKind.wrap;simp[IntKind.signed,IntKind.bits];omega
    have s4:(0:Int)<=((8*j:Nat):Int):=oM;have wj:IntKind.i64.wrap ((j:Int)+1)=((j+1:Nat):Int):=by rw[IntKind.wrap_i64];omega
    clear hA1 hB hln hn hpw hT hM HN HAT HC5 HTL HBT HR HFIN HSZ;go_wp2;go_roundw
    case rel=>exact⟨trivial,j+1,M,oM,gN,by first|rfl|simp,HM2.out⟩
    case measure=>simp[intOf];omega
   .have e1:¬ (j:Int)<(c:Int):=oM;have hjc:c=j:=oM;have HF:=A6 (HFIN.out _ _ rfl HR.1 HR.2.1 HR.2.2);have HNN:Hid (BS (Aa t)=n):=by show _=_;rw[HN.out,<-hjc,<-HTL.out,List.take_length]
    rw[HNN.out]at HF;clear hjc;go_wp2;refine bodyPost_ret (by simp[results,results58,go_sem, *];try rfl) rfl ?_;rw[HNN.out];exact HF.out
theorem ET(E RB:Nat)(s:ByteArray)(A:Nat)(w:World)(h:Bq E RB s A w)(hA:A<=s.size)(hs:s.size<=140737488355328)(hE:E<=w.heap.size):
 Calls prog 88 #[.pointer (some ⟨RB,0,none⟩)] w (AV E RB s w (fun(b:Nat)=>.int .u32 (b:Int)) (Cc 4 ((Aa s).drop A) A)):=by
 have KN:Calls prog 58 #[.pointer (some ⟨RB,0,none⟩),.int .i64 4] w (AV E RB s w (fun(b:Nat)=>.int .u64 (b:Int)) (Cc 4 ((Aa s).drop A) A)):=G8 E RB s A 4 dE w h hA hs hE;have hbw:=(FF 4).bw ((Aa s).drop A) A;clear h;cases hq:Cc 4 ((Aa s).drop A) A with
 |error er=>
  obtain⟨er,at_⟩:=er;rw[hq]at KN;have KN':=A6 KN;unfold AV AY at KN' |-;simp only at KN' |-;clear KN hq hbw;go_enter func88,ntmps88;go_wp2_with(go_at_call 58;(with_reducible refine KN'.out.mono ?_);rintro e9 w4 ⟨rfl,hb4,ho4⟩;have HB4:=A6 hb4;have HO4:=A6 ho4;clear hb4 ho4);exact⟨rfl,rfl,HB4.out,HO4.out⟩
 |ok r=>
  obtain⟨n,l',A'⟩:=r;have hn:n<256^4:=(hbw n l' A' (fun b hx=>E9 s b (List.mem_of_mem_drop hx)) hq).2.2;have wn:IntKind.u32.wrap (n:Int)=(n:Int):=by unfold IntKind.wrap;simp[IntKind.signed,IntKind.bits];omega
  rw[hq]at KN;have KN':=A6 KN;clear KN hq hbw hn;unfold AV at KN';simp only at KN';have HG:Hid (∀w',Below E w w'->AZ RB w w'->Bq E RB s A' w'->A'<=s.size->l'=(Aa s).drop A'->AV E RB s w (fun(b:Nat)=>Value.int .u32 (b:Int)) (.ok (n,l',A')) (.returned (.int .u32 (n:Int))) w'):=fun w' a b c d e=>⟨rfl,a,b,c,d,e⟩
  go_enter func88,ntmps88;go_wp2_with(go_at_call 58;(with_reducible refine KN'.out.mono ?_);rintro e9 w4 ⟨rfl,hb4,ho4,hm4,hl4,hd4⟩;have HR4:=A6 (HG.out _ hb4 ho4 hm4 hl4 hd4);clear hb4 ho4 hm4 hl4 hd4);refine bodyPost_ret (by simp[results,results88,go_sem, *];try rfl) rfl ?_;exact HR4.out
theorem B3{α β γ:Type}(q:Pz α)(f:α->Pz β)(g:β->Pz γ):Ac (Ac q f) g=Ac q fun x=>Ac (f x) g:=by
 funext l p;unfold Ac;cases q l p with
 |error e=>rfl
 |ok r=>obtain⟨x,l',p'⟩:=r;rfl
theorem Bw{α β:Type}(x:α)(f:α->Pz β):Ac (Ay x) f=f x:=rfl
theorem Hh{α:Type}(q:Pz α):(Ac q fun x=>Ay x)=q:=by
 funext l p;unfold Ac Ay;cases q l p with
 |error e=>rfl
 |ok r=>obtain⟨x,l',p'⟩:=r;rfl
theorem Ah{α β:Type}{q:Pz α}{f:α->Pz β}{l:List Nat}{p:Nat}{e:Int×Nat}(h:q l p=.error e):Ac q f l p=.error e:=by unfold Ac;rw[h]
theorem Ap{α β:Type}{q:Pz α}{f:α->Pz β}{l l':List Nat}{p p':Nat}{x:α}(h:q l p=.ok (x,l',p')):Ac q f l p=f x l' p':=by unfold Ac;rw[h]
def FU(i:AB)(o:Nat)(v:Int):AB:=if o=1 then{i with d:=v}else if o=2 then{i with a:=v}else if o=3 then{i with b:=v}else if o=4 then{i with c:=v}else{i with n:=v}
def OB:List Nat->AB->Pz AB
 |[],i=>Ay i
 |o::os,i=>Ac BJ fun n=>OB os (FU i o (n:Int))
def CS(op:Nat):AB:=⟨(op:Int),0,0,0,0,0,0⟩
theorem O3:∀op:Nat,1<=op->op<=37->(Ac (CD (Iy op)) fun d=>Ac (CD (I3 op)) fun a=>Ac (CD (He op)) fun b=>Ac (CD (I4 op)) fun c=>Ac (CD (Ft op)) fun n=>Ac (EZ op) fun z=>Ay (⟨(op:Int),d,a,b,c,n,z⟩:AB))=Ac (OB (Cz (CS op)) (CS op)) fun i=>Ac (EZ op) fun z=>Ay {i with bits:=z}:=fun op h1 h2=>by
 obtain⟨a1,a2⟩:=Jl op oM oM;rw[Jb (i:=CS op) op rfl];generalize Iy op=D at *;generalize I3 op=A at *;generalize He op=B at *;generalize I4 op=C at *;generalize Ft op=N at *;cases A<;>cases B<;>cases C<;>simp at a1 a2<;>cases D<;>cases N<;>simp[CD,OB,B3,Bw,FU,CS]
theorem O2(l:List Nat)(p:Nat):DY l p=Ac (Bl 1 37) (fun op=>Ac (OB (Cz (CS op)) (CS op)) fun i=>Ac (EZ op) fun z=>Ay {i with bits:=z}) l p:=by
 unfold DY;cases hq:Bl 1 37 l p with
 |error e=>rw[Ah hq,Ah hq]
 |ok r=>
  obtain⟨op,l',p'⟩:=r;have hk:1<=op/\op<=37:=by
   cases l with
   |nil=>cases hq
   |cons a l=>
    unfold Bl at hq;simp only at hq;split at hq
    .cases hq
    .simp only[Except.ok.injEq,Prod.mk.injEq]at hq;omega
  rw[Ap hq,Ap hq,O3 op hk.1 hk.2]
theorem Ol(i:AB)(o:Nat)(v:Int):(FU i o v).op=i.op:=by
 unfold FU
 repeat' split
 all_goals rfl
theorem Lj(i:AB)(o:Nat)(v:Int):(FU i o v).bits=i.bits:=by
 unfold FU
 repeat' split
 all_goals rfl
def Cp{α:Type}(q:Pz α)(n:Nat)(ys:List α):Pz (List α):=Ac (GB q n) fun xs=>Ay (ys++xs)
theorem Hi{α:Type}(q:Pz α)(n:Nat):Cp q n []=GB q n:=by
 unfold Cp;simp only[List.nil_append];exact Hh _
theorem DJ{α:Type}(q:Pz α)(ys:List α):Cp q 0 ys=Ay ys:=by
 unfold Cp GB;rw[Bw,List.append_nil]
theorem CV{α:Type}(q:Pz α)(n:Nat)(ys:List α):Cp q (n+1) ys=Ac q fun x=>Cp q n (ys++[x]):=by
 unfold Cp;rw[GB,B3];congr 1;funext x;rw[B3];congr 1;funext xs;rw[Bw,List.append_assoc];rfl
def Fy:Pz Unit:=fun l p=>if l.take (min l.length 4)≠DQ.take (min l.length 4)then .error (240,0)else if l.length<4 then .error (242,0)else .ok ((),l.drop 4,4)
def Kv(s:List Nat):Pz Unit:=fun l p=>if l.length<8 then .error (242,p)else if BS (l.take 8)≠I1 (s.take p)then .error (241,p)else if 8<l.length then .error (244,p+8)else .ok ((),l.drop 8,p+8)
def ID:Pz Cd:=Ac Fy fun _=>Gg
theorem Nw(s:List Nat):Gp s=match Ac ID (fun c=>Ac (Kv s) fun _=>Ay c) s 0 with
 | .error e=>.error e
 | .ok (c,_,_)=>if(Az c).1≠0 then .error ((Az c).1,0)else .ok c:=by
 unfold Gp ID Fy;by_cases h1:s.take (min s.length 4)≠DQ.take (min s.length 4)
 .rw[if_pos h1,Ah (e:=(240,0)) (Ah (by rw[if_pos h1]))]
 .rw[if_neg h1];by_cases h2:s.length<4
  .rw[if_pos h2,Ah (e:=(242,0)) (Ah (by rw[if_neg h1,if_pos h2]))]
  .rw[if_neg h2,B3,Ap (x:=()) (l':=s.drop 4) (p':=4) (by rw[if_neg h1,if_neg h2])];cases hq:Gg (s.drop 4) 4 with
   |error e=>rw[Ah hq]
   |ok r=>
    obtain⟨c,l,p⟩:=r;rw[Ap hq];simp only;unfold Kv;by_cases h3:l.length<8
    .rw[if_pos h3,Ah (e:=(242,p)) (by rw[if_pos h3])]
    .rw[if_neg h3];by_cases h4:BS (l.take 8)≠I1 (s.take p)
     .rw[if_pos h4,Ah (e:=(241,p)) (by rw[if_neg h3,if_pos h4])]
     .rw[if_neg h4];by_cases h5:8<l.length
      .rw[if_pos h5,Ah (e:=(244,p+8)) (by rw[if_neg h3,if_neg h4,if_pos h5])]
      .rw[if_neg h5,Ap (x:=()) (l':=l.drop 8) (p':=p+8) (by rw[if_neg h3,if_neg h4,if_neg h5])];rfl
theorem Dq{i:AB}(h:CJ i):(Bf i).length<=55:=by
 have h2:=B9 (e:=fun o=>Ak (Lu i o).toNat) (m:=9) (Cz i) (fun o ho=>Al (by have:=LJ h o ho;omega));have h3:=Gu i;have h4:(EB i.op.toNat i.bits).length<=4:=by unfold EB;split;rw[AN];omega;simp
 rw[H3 h.1 h.2.1,List.length_append,List.length_append,List.length_singleton];omega
theorem IY(E WB:Nat)(l:List Nat)(v:Value)(w:World)(h:Bc E WB l v w)(rs:List AB)(hrs:∀x∈rs,CJ x)(hn:rs.length<=32768)(p:Option Addr)(q:Nat)(hr:∀u,Below E w u->B4 7 BR u (.slice p rs.length q) rs)(hl:l.length+2000000<=100000000):
 Calls prog 46 #[.pointer (some ⟨WB,0,none⟩),.slice p rs.length q,.func (.func 47) #[.pointer (some ⟨WB,0,none⟩)] #[]] w fun e w'=>e=.returned (.tuple #[])/\Below E w w'/\∃v',Bc E WB (l++An Bf rs) v' w'/\Ba WB v w v' w':=by
 obtain⟨N,hN⟩:=gA (rs.length)
 have hnl:=Al (n:=N) oM;have HLN:Hid (∀k,((l++Ak N)++(rs.take k).flatMap Bf).length+100<=100000000):=fun k=>by
  have h1:=B9 (e:=Bf) (m:=55) (rs.take k) (fun x hx=>Dq (hrs x (List.mem_of_mem_take hx)));rw[List.length_take]at h1;rw[List.length_append,List.length_append];have h2:min k rs.length<=32768:=oM;omega
 have HFM:=A6 (fun(k:Nat) (hk:k<rs.length)=>BA Bf hk);have HEL:Hid (An Bf rs=Ak N++rs.flatMap Bf):=by show An Bf rs=_;unfold An;rw[hN]
 have KW:=A6 (fun(m:List Nat) (v:Value) (u:World) (a:Bc E WB m v u) (x:AB) (hx:CJ x) (b:m.length+100<=100000000)=>Nh E WB m v u a x hx oM);have KN:=A6 (Bm E WB l v w h N oM oM);have HRW:Hid (∀u,Below E w u->B4 7 BR u (.slice p N q) rs):=fun u hu=>by rw[<-hN];exact hr u hu
 have HOK:=A6 hrs;have HN:=A6 hN;rw[hN]at hn |-;clear hr hrs h hN;go_enter func46,ntmps46;go_upto_block 0 with(go_at_call 79;(with_reducible refine KN.out.mono ?_);rintro e9 w4 ⟨rfl,hb4,v4,hm4,ho4⟩;have HJ0:Hid (Below E w w4/\∃v',Bc E WB ((l++Ak N)++(rs.take 0).flatMap Bf) v' w4/\Ba WB v w v' w4):=⟨hb4,v4,Qk,ho4⟩;clear hb4 hm4 ho4)
 go_wp2_with fail
 go_loopw [14] (fun iv wx=>∃k:Nat,k<=N/\iv=.int .i64 (k:Int)/\Hid (Below E w wx/\∃v',Bc E WB ((l++Ak N)++(rs.take k).flatMap Bf) v' wx/\Ba WB v w v' wx)) (fun iv _=>N-(intOf iv).toNat)
 case atStart=>exact⟨0,gI _,rfl,HJ0.out⟩
 case round=>
  clear HJ0;obtain⟨k,hk,rfl,HJ⟩:=hrel;by_cases hlt:k<N
  .have hkl:k<rs.length:=by have:=HN.out;omega
   obtain⟨hb,v2,hm,ho⟩:=HJ.out;obtain⟨rb,ro,rfl,hcl⟩:=(HRW.out wr hb).at hkl;have hx:=HOK.out rs[k] (gD hkl);have hfm:=HFM.out k hkl;obtain⟨x,hxe⟩:=gA (rs[k])
   rw[hxe]at hcl hx hfm;obtain⟨V,hV⟩:=gA (wr.alloc (.cells #[.int .i64 (x.op),.int .i64 (x.d),.int .i64 (x.a),.int .i64 (x.b),.int .i64 (x.c),.int .i64 (x.n),.int .u32 (x.bits)] 70))
   have hbV:Below wr.heap.size wr V:=by rw[<-hV];exact A5 _ _
   have y0:=hcl.at 0 (v:=.int .i64 (x.op)) rfl;rw[Nat.add_zero]at y0;have y1:=hcl.at 1 (v:=.int .i64 (x.d)) rfl;have y2:=hcl.at 2 (v:=.int .i64 (x.a)) rfl;have y3:=hcl.at 3 (v:=.int .i64 (x.b)) rfl;have y4:=hcl.at 4 (v:=.int .i64 (x.c)) rfl;have y5:=hcl.at 5 (v:=.int .i64 (x.n)) rfl;have y6:=hcl.at 6 (v:=.int .u32 (x.bits)) rfl;have z0:V.cell? ⟨wr.heap.size,0,none⟩=some (.int .i64 (x.op)):=by rw[<-hV];simp[go_sem]
   have z1:V.cell? ⟨wr.heap.size,1,none⟩=some (.int .i64 (x.d)):=by rw[<-hV];simp[go_sem]
   have z2:V.cell? ⟨wr.heap.size,2,none⟩=some (.int .i64 (x.a)):=by rw[<-hV];simp[go_sem]
   have z3:V.cell? ⟨wr.heap.size,3,none⟩=some (.int .i64 (x.b)):=by rw[<-hV];simp[go_sem]
   have z4:V.cell? ⟨wr.heap.size,4,none⟩=some (.int .i64 (x.c)):=by rw[<-hV];simp[go_sem]
   have z5:V.cell? ⟨wr.heap.size,5,none⟩=some (.int .i64 (x.n)):=by rw[<-hV];simp[go_sem]
   have z6:V.cell? ⟨wr.heap.size,6,none⟩=some (.int .u32 (x.bits)):=by rw[<-hV];simp[go_sem]
   have llb:rb<wr.heap.size:=Ae y0;have n9:¬rb=wr.heap.size:=oM;have KX:=A6 (KW.out _ v2 V (hm.below hbV) x hx (HLN.out k));have HFM':=A6 hfm;have HBV:Hid (Below E w V):=hb.trans (hbV.mono hm.le);have HOV:Hid (∀v' w',Ba WB v2 V v' w'->Ba WB v w v' w'):=fun v' w' z=>ho.trans (Ba.below hm hbV z);have i1:(0:Int)<=(k:Int):=oM;have i2:(k:Int)<(N:Int):=oM;have wi:IntKind.i64.wrap ((k:Int)+1)=((k+1:Nat):Int):=by rw[IntKind.wrap_i64];omega
   clear hb hm ho hcl hx hfm hxe hbV llb HJ;go_wp2_with(go_at_call 47;(with_reducible refine KX.out.mono ?_);rintro e9 w5 ⟨rfl,hb5,v5,hm5,ho5⟩;have HQ:Hid (Below E w w5/\∃v',Bc E WB ((l++Ak N)++(rs.take (k+1)).flatMap Bf) v' w5/\Ba WB v w v' w5):=⟨HBV.out.trans hb5,v5,Ql,HOV.out _ _ ho5⟩;clear hb5 hm5 ho5);exact PA
  .have e1:¬ (k:Int)<(N:Int):=oM;have hall:rs.take k=rs:=List.take_of_length_le Pn;have HQ:Hid (Below E w wr/\∃v',Bc E WB (l++An Bf rs) v' wr/\Ba WB v w v' wr):=by
    exact Q9
   exact Q1
theorem Fx{lo hi:Nat}{l:List Nat}{p b p':Nat}{l':List Nat}(h:Bl lo hi l p=.ok (b,l',p')):lo<=b/\b<=hi:=by
 cases l with
 |nil=>cases h
 |cons a l=>
  unfold Bl at h;simp only at h;split at h
  .cases h
  .simp only[Except.ok.injEq,Prod.mk.injEq]at h;omega
def BN(E RB:Nat)(s:ByteArray)(A:Nat)(w v:World):Prop:=Below E w v/\AZ RB w v/\Bq E RB s A v
theorem BN.start{E RB:Nat}{s:ByteArray}{A:Nat}{w:World}(h:Bq E RB s A w):BN E RB s A w w:=⟨Below.refl _ _,AZ.refl _ _,h⟩
theorem BN.next{E RB:Nat}{s:ByteArray}{A A':Nat}{w v v':World}(h:BN E RB s A w v)(a:Below E v v')(b:AZ RB v v')(c:Bq E RB s A' v'):BN E RB s A' w v':=⟨h.1.trans a,h.2.1.trans b,c⟩
theorem BN.below{E RB:Nat}{s:ByteArray}{A:Nat}{w v v':World}(h:BN E RB s A w v)(hE:E<=w.heap.size)(k:Below v.heap.size v v'):BN E RB s A w v':=⟨h.1.trans (k.mono (gH hE h.2.1.1)),h.2.1.trans (AZ.of k),h.2.2.below k⟩
theorem BN.set{E RB:Nat}{s:ByteArray}{A:Nat}{w v:World}(h:BN E RB s A w v)(hE:E<=w.heap.size)(hR:RB<w.heap.size){Y:Nat}(hY:w.heap.size<=Y)(o:Nat)(x:Value):BN E RB s A w (v.setCell ⟨Y,o,none⟩ x):=
 ⟨h.1.setCell (gH hE hY) _,⟨by simpa using h.2.1.1,fun b hb hne=>(gE (by show b≠Y;omega)).trans (h.2.1.2 b hb hne)⟩,⟨h.2.2.b.of_block (gE (by show RB≠Y;omega)),h.2.2.ge⟩⟩
theorem BN.fin{α:Type}{E RB:Nat}{s:ByteArray}{A:Nat}{w v:World}(h:BN E RB s A w v){val:α->Value}{x:α}{l:List Nat}(hA:A<=s.size)(hl:l=(Aa s).drop A):AV E RB s w val (.ok (x,l,A)) (.returned (val x)) v:=⟨rfl,h.1,h.2.1,h.2.2,hA,hl⟩
theorem BN.bad{α:Type}{E RB:Nat}{s:ByteArray}{A:Nat}{w v v':World}(h:BN E RB s A w v)(val:α->Value)(er:Int)(at_:Nat)(a:Below E v v')(b:AZ RB v v'):AV E RB s w val (.error (er,at_)) (AY er at_) v':=⟨rfl,h.1.trans a,h.2.1.trans b⟩
theorem AC{RB X:Nat}{w w':World}{t:TypeId}{n:Nat}{f:Nat->Value}(h:AZ RB w w')(hr:w.rowIs X t n f)(hX:X≠RB):w'.rowIs X t n f:=hr.of_block (h.2 X hr.lt hX)
theorem Gl(E RB:Nat)(s:ByteArray)(A:Nat)(w:World)(h:Bq E RB s A w)(hA:A<=s.size)(hs:s.size<=140737488355328)(hE:E<=w.heap.size):
 Calls prog 53 #[.pointer (some ⟨RB,0,none⟩)] w (AV E RB s w Ci (Hj ((Aa s).drop A) A)):=by
 obtain⟨W0,hW0⟩:∃W,w.alloc (.cells #[.int .i64 0,.int .i64 0] 62)=W:=⟨_,rfl⟩
 have hb0:Below w.heap.size w W0:=by rw[<-hW0];exact A5 _ _
 have h0:=h.below hb0;have hE0:E<=W0.heap.size:=gH hE hb0.size;obtain⟨X,hX⟩:=gA (w.heap.size)
 have hXR:X≠RB:=by have:=h.b.lt;omega
 have hr0:W0.rowIs X 62 2 (fun _=>.int .i64 0):=by
  rw[<-hW0,<-hX];exact World.rowIs_alloc w #[.int .i64 0,.int .i64 0] 62 _ (fun i hi=>by
   rcases(show i=0\/i=1 by have:i<2:=hi;omega)with rfl|rfl<;>rfl)
 have KS:Calls prog 85 #[.pointer (some ⟨RB,0,none⟩),.int .i64 1,.int .i64 3] W0 (AV E RB s W0 (fun(b:Nat)=>.int .i64 (b:Int)) (Bl 1 3 ((Aa s).drop A) A)):=DM E RB s A 1 3 W0 h0 hA hs hE0;obtain⟨R,hR⟩:=gA (Hj ((Aa s).drop A) A)
 rw[hR];cases hq:Bl 1 3 ((Aa s).drop A) A with
 |error er=>
  obtain⟨er,at_⟩:=er;have HP:R=.error (er,at_):=by rw[<-hR];unfold Hj;simp only[Ac,hq]
  rw[HP];rw[hq]at KS;have KS':=A6 KS;have HB0:=A6 (hb0.mono hE);have HO0:=A6 (AZ.of (RB:=RB) hb0);unfold AV AY at KS' |-;simp only at KS' |-;clear h h0 hb0 hr0 KS hq HP hR hX hXR hE0;go_enter func53,ntmps53;go_upto_region 1 with fail;try rw[hW0]
  clear hW0;go_wp2_with(go_at_call 85;(with_reducible refine KS'.out.mono ?_);rintro e9 w4 ⟨rfl,hb4,ho4⟩;have HB4:=A6 hb4;have HO4:=A6 ho4;clear hb4 ho4);exact⟨rfl,rfl,HB0.out.trans HB4.out,HO0.out.trans HO4.out⟩
 |ok r=>
  obtain⟨k,l',A1⟩:=r;have hk:=Fx hq;rw[hq]at KS;have KS':=A6 KS;unfold AV at KS';simp only at KS';have HB0:=A6 (hb0.mono hE);have HO0:=A6 (AZ.of (RB:=RB) hb0);have HR0:=A6 hr0;have HRB:=A6 h.b.lt;have HRS:=A6 ((BN.start h).below hE hb0);have HX:Hid (w.heap.size<=X):=Nat.le_of_eq hX;clear h h0 hb0 hr0 KS hE0;go_enter func53,ntmps53;go_upto_region 1 with fail;try rw[hW0]
  try rw[hX]
  clear hW0 hX;go_upto_region 2 with(go_at_call 85;(with_reducible refine KS'.out.mono ?_);rintro e9 w4 ⟨rfl,hb4,ho4,hm4,hl4,hd4⟩;have HB4:=A6 hb4;have HO4:=A6 ho4;have HM4:=A6 hm4;have HD4:=A6 hd4;have HL4:=A6 hl4;clear hb4 ho4 hm4 hl4 hd4)
  obtain⟨Y,hY⟩:=gA (w4.heap.size)
  obtain⟨V,hV⟩:=gA (w4.alloc (.cells #[.int .i64 (k:Int),.int .i64 0] 62))
  have hbV:Below w4.heap.size w4 V:=by rw[<-hV];exact A5 _ _
  have r4:w4.rowIs X 62 2 (fun _=>.int .i64 0):=AC HO4.out HR0.out hXR;have rx:V.rowIs X 62 2 (fun _=>.int .i64 0):=r4.of_block (hbV.block _ r4.lt);have ry:V.rowIs Y 62 2 (fun j=>if j=0 then .int .i64 (k:Int)else .int .i64 0):=by
   rw[<-hV,<-hY];exact World.rowIs_alloc w4 #[.int .i64 (k:Int),.int .i64 0] 62 _ (fun i hi=>by
    rcases(show i=0\/i=1 by have:i<2:=hi;omega)with rfl|rfl<;>rfl)
  have hXY:X≠Y:=by have:=r4.lt;omega
  have hYR:Y≠RB:=by have:=HM4.b.lt;omega
  have hXw:=HX.out;have hwY:w.heap.size<=Y:=by have:=r4.lt;omega
  have hRB:=HRB.out;have D1:BN E RB s A1 w V:=((HRS.next HB4.out HO4.out HM4.out).below hE hbV)
  have y0:V.cell? ⟨Y,0,none⟩=some (.int .i64 (k:Int)):=ry.cell (i:=0) dE;have y1:V.cell? ⟨Y,1,none⟩=some (.int .i64 0):=ry.cell (i:=1) dE;try rw[hV]
  try rw[hY]
  clear hV hY hbV;by_cases q:k=3
  .subst q;have KM:=Co E RB s A1 V D1.2.2 HL4.out hs (gH hE D1.2.1.1);have HPB:∀r,(Ac BJ fun n=>Ay (⟨3,(n:Int)⟩:Ty)) ((Aa s).drop A1) A1=r->R=r:=fun r e=>by
    unfold Hj at hR;rw[<-hR,B3,Ap hq,HD4.out,decide_eq_true rfl,<-e];show Ac (Ac (Ac BJ fun n=>Ay (n:Int)) fun v=>Ay (3,v)) (fun(z:Nat×Int)=>Ay (⟨(z.1:Int),z.2⟩:Ty)) _ _=_;simp only[B3,Bw];rfl
   cases hq2:BJ ((Aa s).drop A1) A1 with
   |error er=>
    obtain⟨er,at_⟩:=er;have HP:=A6 (HPB _ (Ah hq2));rw[hq2]at KM;have KM':=A6 KM;unfold AV AY at KM';simp only at KM';have HG:Hid (∀w',Below E V w'->AZ RB V w'->AV E RB s w Ci R (AY er at_) w'):=fun w' a b=>by rw[HP.out];exact D1.bad Ci er at_ a b
    unfold AY at HG;clear D1 HB0 HO0 HR0 HB4 HO4 HM4 KM hq2 HPB HP;go_wp2_with(go_at_call 87;(with_reducible refine KM'.out.mono ?_);rintro e9 w5 ⟨rfl,hb5,ho5⟩;have HR5:=A6 (HG.out _ hb5 ho5);clear hb5 ho5);exact⟨rfl,HR5.out⟩
   |ok r=>
    obtain⟨n,l2,A2⟩:=r;have HP:=A6 (HPB _ (Ap hq2));rw[hq2]at KM;have KM':=A6 KM;unfold AV at KM';simp only at KM';have HG:Hid (∀w',Below E V w'->AZ RB V w'->Bq E RB s A2 w'->BN E RB s A2 w w'/\w'.rowIs X 62 2 (fun _=>.int .i64 0)/\w'.rowIs Y 62 2 (fun j=>if j=0 then .int .i64 ((3:Nat):Int)else .int .i64 0)):=fun w' a b c=>⟨D1.next a b c,AC b rx hXR,AC b ry hYR⟩
    have HWY:=A6 hwY;clear D1 HB0 HO0 HR0 HB4 HO4 HM4 KM hq2 HPB;go_upto_region 4 with(go_at_call 87;(with_reducible refine KM'.out.mono ?_);rintro e9 w5 ⟨rfl,hb5,ho5,hm5,hl5,hd5⟩;obtain⟨D5,x5,z5⟩:=HG.out _ hb5 ho5 hm5;have HL5:=A6 hl5;have HD5:=A6 hd5;have y5:w5.cell? ⟨Y,1,none⟩=some (.int .i64 0):=z5.cell (i:=1) dE;have f5:=z5.frozen 1;clear hb5 ho5 hm5 hl5 hd5)
    obtain⟨V2,hV2⟩:=gA (w5.setCell ⟨Y,1,none⟩ (.int .i64 (n:Int)))
    have x6:V2.rowIs X 62 2 (fun _=>.int .i64 0):=by rw[<-hV2];exact x5.of_block (gE hXY)
    have z6:=z5.set 1 (.int .i64 (n:Int));rw[hV2]at z6;have a0:V2.cell? ⟨Y,0,none⟩=some (.int .i64 3):=z6.cell (i:=0) dE;have a1:V2.cell? ⟨Y,1,none⟩=some (.int .i64 (n:Int)):=z6.cell (i:=1) dE;have D6:BN E RB s A2 w V2:=by rw[<-hV2];exact D5.set hE hRB HWY.out 1 _
    have x0:V2.cell? ⟨X,0,none⟩=some (.int .i64 0):=x6.cell (i:=0) dE;have x1:V2.cell? ⟨X,1,none⟩=some (.int .i64 0):=x6.cell (i:=1) dE;have f0:=x6.frozen 0;have f1:=x6.frozen 1;have HD:=A6 ((D6.set hE hRB hXw 0 (.int .i64 3)).set hE hRB hXw 1 (.int .i64 (n:Int)));try rw[hV2]
    clear hV2 D5 D6 x5 z5 x6 z6 y5 f5;go_wp2;refine bodyPost_ret (by simp[results,results53,go_sem, *];try rfl) rfl ?_;rw[HP.out];exact HD.fin HL5.out HD5.out
  .have q2:((k:Int)==3)=false:=sO;have x0:V.cell? ⟨X,0,none⟩=some (.int .i64 0):=rx.cell (i:=0) dE;have x1:V.cell? ⟨X,1,none⟩=some (.int .i64 0):=rx.cell (i:=1) dE;have f0:=rx.frozen 0;have f1:=rx.frozen 1;have D2:=(D1.set hE hRB hXw 0 (.int .i64 (k:Int))).set hE hRB hXw 1 (.int .i64 0);have HD:=A6 D2;clear D1 D2 HB0 HO0 HR0 HB4 HO4 HM4;have HP:Hid (R=.ok (⟨(k:Int),0⟩,l',A1)):=by
    show _=_;unfold Hj at hR;rw[<-hR,B3,Ap hq,decide_eq_false q];rfl
   go_wp2;refine bodyPost_ret (by simp[results,results53,go_sem, *];try rfl) rfl ?_;rw[HP.out];exact HD.fin HL4.out HD4.out
theorem Cn{α:Type}{e:α->List Nat}{m:Nat}(l:List α)(h:∀x∈l,(e x).length<=m)(hl:l.length<9223372036854775808):(An e l).length<=9+m*l.length:=by
 unfold An;rw[List.length_append];have:=Al hl;have:=B9 l h;omega
def Lw:ByteArray:=⟨#[108,116,104,49]⟩
theorem Lp(E WB:Nat)(l:List Nat)(v:Value)(w:World)(h:Bc E WB l v w)(c:Cd)(hc:BI c)(hl:l.length<=1000)(CB:Nat)(p0 p1 p2 p3:Option Addr)(q0 q1 q2 q3:Nat)
 (hcl:∀u,Below E w u->u.cell? ⟨CB,0,none⟩=some (.slice p0 c.sign.length q0)/\u.cell? ⟨CB,1,none⟩=some (.slice p1 c.regs.length q1)/\u.cell? ⟨CB,2,none⟩=some (.slice p2 c.slots.length q2)/\u.cell? ⟨CB,3,none⟩=some (.slice p3 c.list.length q3))
 (hrw:∀u,Below E w u->B4 3 Au u (.slice p0 c.sign.length q0) c.sign/\B4 2 Ey u (.slice p1 c.regs.length q1) c.regs/\B4 5 F8 u (.slice p2 c.slots.length q2) c.slots/\B4 7 BR u (.slice p3 c.list.length q3) c.list):
 Calls prog 17 #[.pointer (some ⟨WB,0,none⟩),.pointer (some ⟨CB,0,none⟩)] w fun e w'=>e=.returned (.tuple #[])/\Below E w w'/\∃v',Bc E WB (l++(Aa Lw++Bv c)) v' w'/\Ba WB v w v' w':=by
 obtain⟨⟨s1,s2⟩,⟨r1,r2⟩,⟨t1,t2⟩,⟨i1,i2⟩⟩:=hc;have lm:(Aa Lw).length=4:=by rw[AD];rfl
 have l0:=Cn (e:=AS) (m:=90) c.sign (fun x hx=>Ed (s2 x hx)) oM;have l1:=Cn (e:=BL) (m:=10) c.regs (fun x hx=>Ct (r2 x hx)) oM;have l2:=Cn (e:=C5) (m:=20) c.slots (fun x hx=>F2 (t2 x hx)) oM;have HT:Hid (l++(Aa Lw++Bv c)=(((((l++Aa Lw)++An AS c.sign)++An BL c.regs)++An C5 c.slots)++An Bf c.list)):=by
  show _=_;unfold Bv;simp
 obtain⟨p,q,p',q',n',w6,hv6,hrun,c6,f6,hb6,hm6,ho6,hg6⟩:=h.appS Lw (by show l.length+4<=_;omega);subst hv6;have b0:w.cell? ⟨WB,0,none⟩=some (.slice p l.length q):=h.b.cell (i:=0) dE;have hrun':(Builtin.append_ #[49,9] 49 #[.slice p l.length q,.string ⟨#[108,116,104,49]⟩]).run prog w=.ok (.slice p' n' q') w6:=hrun;have HRUN:=A6 hrun';obtain⟨W6,hW6⟩:∃W,w6.setCell ⟨WB,0,none⟩ (.slice p' n' q')=W:=⟨_,rfl⟩
 rw[hW6]at hb6 hm6 ho6;have HB6:=A6 hb6;have HO6:=A6 ho6;have K0:=A6 (IZ E WB _ _ W6 hm6 c.sign s2 s1 p0 q0 (fun u hu=>(hrw u (hb6.trans hu)).1) (by rw[List.length_append];omega));have K1:Hid (∀ (v:Value) (u:World),Below E w u->Bc E WB ((l++Aa Lw)++An AS c.sign) v u->Calls prog 42 #[.pointer (some ⟨WB,0,none⟩),.slice p1 c.regs.length q1,.func (.func 43) #[.pointer (some ⟨WB,0,none⟩)] #[]] u fun e w'=>e=.returned (.tuple #[])/\Below E u w'/\∃v',Bc E WB (((l++Aa Lw)++An AS c.sign)++An BL c.regs) v' w'/\Ba WB v u v' w'):=fun v u hu a=>J1 E WB _ v u a c.regs r2 r1 p1 q1 (fun x hx=>(hrw x (hu.trans hx)).2.1) (by rw[List.length_append,List.length_append];omega);have K2:Hid (∀ (v:Value) (u:World),Below E w u->Bc E WB (((l++Aa Lw)++An AS c.sign)++An BL c.regs) v u->Calls prog 44 #[.pointer (some ⟨WB,0,none⟩),.slice p2 c.slots.length q2,.func (.func 45) #[.pointer (some ⟨WB,0,none⟩)] #[]] u fun e w'=>e=.returned (.tuple #[])/\Below E u w'/\∃v',Bc E WB ((((l++Aa Lw)++An AS c.sign)++An BL c.regs)++An C5 c.slots) v' w'/\Ba WB v u v' w'):=fun v u hu a=>J0 E WB _ v u a c.slots t2 t1 p2 q2 (fun x hx=>(hrw x (hu.trans hx)).2.2.1) (by rw[List.length_append,List.length_append,List.length_append];omega);have K3:Hid (∀ (v:Value) (u:World),Below E w u->Bc E WB ((((l++Aa Lw)++An AS c.sign)++An BL c.regs)++An C5 c.slots) v u->Calls prog 46 #[.pointer (some ⟨WB,0,none⟩),.slice p3 c.list.length q3,.func (.func 47) #[.pointer (some ⟨WB,0,none⟩)] #[]] u fun e w'=>e=.returned (.tuple #[])/\Below E u w'/\∃v',Bc E WB (((((l++Aa Lw)++An AS c.sign)++An BL c.regs)++An C5 c.slots)++An Bf c.list) v' w'/\Ba WB v u v' w'):=fun v u hu a=>IY E WB _ v u a c.list i2 i1 p3 q3 (fun x hx=>(hrw x (hu.trans hx)).2.2.2) (by rw[List.length_append,List.length_append,List.length_append,List.length_append];omega);have HCL:=A6 hcl;have HGE:=A6 h.ge;obtain⟨N0,hN0⟩:∃n,c.sign.length=n:=⟨_,rfl⟩
 obtain⟨N1,hN1⟩:∃n,c.regs.length=n:=⟨_,rfl⟩
 obtain⟨N2,hN2⟩:∃n,c.slots.length=n:=⟨_,rfl⟩
 obtain⟨N3,hN3⟩:∃n,c.list.length=n:=⟨_,rfl⟩
 simp only[hN0,hN1,hN2,hN3]at K0 K1 K2 K3 HCL;obtain⟨x0,x1,x2,x3⟩:=HCL.out W6 hb6;rw[<-hW6]at x0 x1 x2 x3;have HW6:=A6 hW6;clear hrun hrun' hb6 hm6 ho6 hg6 hcl hrw h s1 s2 r1 r2 t1 t2 i1 i2 lm l0 l1 l2 hN0 hN1 hN2 hN3 hW6;go_enter func17,ntmps17;go_upto_region 1 with(at_builtin;refine HY rF _ _ _ _ rF _ _ _ rF rF HRUN.out ?_)
 rw[HW6.out]at x0 x1 x2 x3 |-;clear b0 c6 f6 HRUN HW6;go_upto_region 2 with(go_at_call 40;(with_reducible refine K0.out.mono ?_);rintro e9 w7 ⟨rfl,hb7,v7,hm7,ho7⟩;have HB7:=A6 (HB6.out.trans hb7);have HM7:=A6 hm7;have HO7:=A6 (HO6.out.trans ho7);clear hb7 hm7 ho7)
 clear x0 x1 x2 x3;obtain⟨x0,x1,x2,x3⟩:=HCL.out _ HB7.out;have K7:=A6 (K1.out _ _ HB7.out HM7.out);clear K0 K1;go_upto_region 3 with(go_at_call 42;(with_reducible refine K7.out.mono ?_);rintro e9 w8 ⟨rfl,hb8,v8,hm8,ho8⟩;have HB8:=A6 (HB7.out.trans hb8);have HM8:=A6 hm8;have HO8:=A6 (HO7.out.trans ho8);clear hb8 hm8 ho8)
 clear x0 x1 x2 x3;obtain⟨x0,x1,x2,x3⟩:=HCL.out _ HB8.out;have K8:=A6 (K2.out _ _ HB8.out HM8.out);clear K7 K2;go_upto_region 4 with(go_at_call 44;(with_reducible refine K8.out.mono ?_);rintro e9 w9 ⟨rfl,hb9,v9,hm9,ho9⟩;have HB9:=A6 (HB8.out.trans hb9);have HM9:=A6 hm9;have HO9:=A6 (HO8.out.trans ho9);clear hb9 hm9 ho9)
 clear x0 x1 x2 x3;obtain⟨x0,x1,x2,x3⟩:=HCL.out _ HB9.out;have K9:=A6 (K3.out _ _ HB9.out HM9.out);clear K8 K3;go_wp2_with(go_at_call 46;(with_reducible refine K9.out.mono ?_);rintro e9 wA ⟨rfl,hbA,vA,hmA,hoA⟩;have HBA:=A6 (HB9.out.trans hbA);have HMA:=A6 hmA;have HOA:=A6 (HO9.out.trans hoA);clear hbA hmA hoA);first|go_end0|refine bodyPost_ret (results_none rfl _ _ _) rfl ?_
 refine⟨rfl,HBA.out,vA,?_,HOA.out⟩;rw[HT.out];exact HMA.out
theorem Bc.str{E WB:Nat}{l:List Nat}{v:Value}{w:World}(h:Bc E WB l v w)(hb:∀b∈l,b<256)(hn:0<l.length):
 ∃p q,v=.slice p l.length q/\(convert 49 9 (.slice p l.length q)).run prog w=.ok (.string (AT l)) w:=by
 rcases h.o.2 with⟨-,e2⟩|⟨g,cap,cur,e1,-⟩
 .omega
 .refine⟨some ⟨g,0,none⟩,cap,e1,?_⟩;have hob:v.ownBlock=some g:=by rw[e1];rfl
  have hl:(l.map UInt8.ofNat).length=l.length:=List.length_map _;have:=run_convert_bytes_back (P:=prog) w 49 9 5 ⟨g,0,none⟩ cap (l.map UInt8.ofNat) underlying49 underlying5 underlying9 (fun j hj=>by
   have hj':j<l.length:=by rw[<-hl];exact hj
   have hlt:=hb l[j] (gD hj');have h9:=h.o.cells hob j (.int .u8 ((l[j]:Nat):Int)) (by unfold GM;simp[hj'])
   rw[h9,List.getElem_map,UInt8.toNat_ofNat',Nat.mod_eq_of_lt hlt])
  rw[hl]at this;exact this
theorem Mf(j:Nat)(hj:j<(#[Value.slice none 0 0]:Array Value).size):(#[Value.slice none 0 0]:Array Value)[j]! =Value.slice none 0 0:=by
 have h0:j=0:=by simpa using hj
 subst h0;rfl
theorem Ii(v0 v1 v2 v3:Value)(c:Cd)(hk:Bd c)(w:World)(hv:CN w v0 v1 v2 v3 c)(hc:(Az c).1≠0):
 Calls prog 8 #[.agg #[v0,v1,v2,v3]] w fun e w'=>e=.returned (.tuple #[.string ⟨#[]⟩,.int .i64 (Az c).1])/\Below w.heap.size w w':=by
 obtain⟨W0,hW0⟩:∃W,w.alloc (.cells #[v0,v1,v2,v3] 27)=W:=⟨_,rfl⟩
 have hb0:Below w.heap.size w W0:=by rw[<-hW0];exact A5 _ _
 have KC:=A6 (EA v0 v1 v2 v3 c hk W0 (hv.below hb0));obtain⟨p0,q0,rfl⟩:∃p q,v0=.slice p c.sign.length q:=by obtain⟨p,q,e,_⟩:=hv.sign;exact⟨p,q,e⟩
 obtain⟨p1,q1,rfl⟩:∃p q,v1=.slice p c.regs.length q:=by obtain⟨p,q,e,_⟩:=hv.regs;exact⟨p,q,e⟩
 obtain⟨p2,q2,rfl⟩:∃p q,v2=.slice p c.slots.length q:=by obtain⟨p,q,e,_⟩:=hv.slots;exact⟨p,q,e⟩
 obtain⟨p3,q3,rfl⟩:∃p q,v3=.slice p c.list.length q:=by obtain⟨p,q,e,_⟩:=hv.list;exact⟨p,q,e⟩
 have x0:W0.cell? ⟨w.heap.size,0,none⟩=some (.slice p0 c.sign.length q0):=by rw[<-hW0];simp[go_sem]
 have x1:W0.cell? ⟨w.heap.size,1,none⟩=some (.slice p1 c.regs.length q1):=by rw[<-hW0];simp[go_sem]
 have x2:W0.cell? ⟨w.heap.size,2,none⟩=some (.slice p2 c.slots.length q2):=by rw[<-hW0];simp[go_sem]
 have x3:W0.cell? ⟨w.heap.size,3,none⟩=some (.slice p3 c.list.length q3):=by rw[<-hW0];simp[go_sem]
 obtain⟨e1,he1⟩:∃e,(Az c).1=e:=⟨_,rfl⟩
 obtain⟨e2,he2⟩:∃e,(Az c).2=e:=⟨_,rfl⟩
 rw[he1,he2]at KC;rw[he1]at hc |-;have q1':(e1==0)=false:=by simpa using hc
 have q2':(e1 != 0)=true:=by simpa using hc
 have HB0:=A6 hb0;clear hk hv he1 he2 hb0;go_enter func8,ntmps8;go_upto_region 1 with fail;try rw[hW0]
 clear hW0;go_wp2_with(go_at_call 16;(with_reducible refine KC.out.mono ?_);rintro e9 w4 ⟨rfl,hb4⟩;have HB4:=A6 hb4;clear hb4);refine bodyPost_ret (by simp[results,results8,go_sem, *];try rfl) rfl ?_;exact⟨rfl,bel HB0.out HB4.out⟩
theorem ER(v0 v1 v2 v3:Value)(c:Cd)(hk:Bd c)(w:World)(hv:CN w v0 v1 v2 v3 c)(hc:(Az c).1=0):
 Calls prog 8 #[.agg #[v0,v1,v2,v3]] w fun e w'=>e=.returned (.tuple #[.string (AT (BB c)),.int .i64 0])/\Below w.heap.size w w':=by
 have hok:=Fh hk.sbits hk.ibits hc;have hlb:=E8 hok;have hmk:Aa Lw=DQ:=dE;have hbl:(B2 c).length=4+(Bv c).length:=by unfold B2;rw[List.length_append];rfl
 have hcl:(Bv c).length<=3000000:=by
  obtain⟨⟨s1,s2⟩,⟨r1,r2⟩,⟨t1,t2⟩,⟨i1,i2⟩⟩:=hok;have l0:=Cn (e:=AS) (m:=90) c.sign (fun x hx=>Ed (s2 x hx)) oM;have l1:=Cn (e:=BL) (m:=10) c.regs (fun x hx=>Ct (r2 x hx)) oM;have l2:=Cn (e:=C5) (m:=20) c.slots (fun x hx=>F2 (t2 x hx)) oM;have l3:=Cn (e:=Bf) (m:=55) c.list (fun x hx=>Dq (i2 x hx)) oM;unfold Bv;rw[List.length_append,List.length_append,List.length_append];omega
 have hle:∀b∈BB c,b<256:=fun b hb=>by
  unfold BB at hb;rcases List.mem_append.1 hb with hb|hb
  .exact hlb b hb
  .exact DF 8 _ b hb
 have hel:0<(BB c).length:=by unfold BB;rw[List.length_append];omega
 obtain⟨W0,hW0⟩:∃W,w.alloc (.cells #[v0,v1,v2,v3] 27)=W:=⟨_,rfl⟩
 have hb0:Below w.heap.size w W0:=by rw[<-hW0];exact A5 _ _
 have hs0:W0.heap.size=w.heap.size+1:=by rw[<-hW0];simp
 have KC:=A6 (EA v0 v1 v2 v3 c hk W0 (hv.below hb0));have HV:=A6 hv;obtain⟨p0,q0,rfl⟩:∃p q,v0=.slice p c.sign.length q:=by obtain⟨p,q,e,_⟩:=hv.sign;exact⟨p,q,e⟩
 obtain⟨p1,q1,rfl⟩:∃p q,v1=.slice p c.regs.length q:=by obtain⟨p,q,e,_⟩:=hv.regs;exact⟨p,q,e⟩
 obtain⟨p2,q2,rfl⟩:∃p q,v2=.slice p c.slots.length q:=by obtain⟨p,q,e,_⟩:=hv.slots;exact⟨p,q,e⟩
 obtain⟨p3,q3,rfl⟩:∃p q,v3=.slice p c.list.length q:=by obtain⟨p,q,e,_⟩:=hv.list;exact⟨p,q,e⟩
 have x0:W0.cell? ⟨w.heap.size,0,none⟩=some (.slice p0 c.sign.length q0):=by rw[<-hW0];simp[go_sem]
 have x1:W0.cell? ⟨w.heap.size,1,none⟩=some (.slice p1 c.regs.length q1):=by rw[<-hW0];simp[go_sem]
 have x2:W0.cell? ⟨w.heap.size,2,none⟩=some (.slice p2 c.slots.length q2):=by rw[<-hW0];simp[go_sem]
 have x3:W0.cell? ⟨w.heap.size,3,none⟩=some (.slice p3 c.list.length q3):=by rw[<-hW0];simp[go_sem]
 have KW:Hid (∀ (u:World),Below W0.heap.size W0 u->Calls prog 17 #[.pointer (some ⟨u.heap.size,0,none⟩),.pointer (some ⟨w.heap.size,0,none⟩)] (u.alloc (.cells #[.slice none 0 0] 51)) fun e w'=>e=.returned (.tuple #[])/\Below u.heap.size (u.alloc (.cells #[.slice none 0 0] 51)) w'/\∃v',Bc u.heap.size u.heap.size (B2 c) v' w'/\Ba u.heap.size (.slice none 0 0) (u.alloc (.cells #[.slice none 0 0] 51)) v' w'):=fun u hu=>by
  have hbu:Below u.heap.size u (u.alloc (.cells #[.slice none 0 0] 51)):=A5 _ _;have hm:Bc u.heap.size u.heap.size [] (.slice none 0 0) (u.alloc (.cells #[.slice none 0 0] 51)):=⟨(QU u #[.slice none 0 0] 51).congr (fun j hj=>Mf j hj),World.ownsRow_nil _ _ _ 1,gF _,hbu.size⟩
  have hx:∀x,Below u.heap.size (u.alloc (.cells #[.slice none 0 0] 51)) x->Below W0.heap.size W0 x:=fun x hx=>hu.trans ((hbu.trans hx).mono hu.size);have h9:=Lp u.heap.size u.heap.size [] (.slice none 0 0) _ hm c hok sM w.heap.size p0 p1 p2 p3 q0 q1 q2 q3 (fun x hxx=>⟨kc (hx x hxx) x0,kc (hx x hxx) x1,kc (hx x hxx) x2,kc (hx x hxx) x3⟩) (fun x hxx=>by
   have:=hv.below (bel hb0 (hx x hxx))
   exact⟨this.sign,this.regs,this.slots,this.list⟩)
  rw[List.nil_append,hmk]at h9;exact h9
 have KP:=A6 (fun u=>DU (AT (B2 c)) (by rw[Af];omega) u);rw[CG hlb]at KP;obtain⟨CR,hCR⟩:∃n,I1 (B2 c)=n:=⟨_,rfl⟩
 have hEN:BB c=B2 c++AK 8 CR:=by unfold BB;rw[hCR]
 rw[hCR]at KP;have hcr:CR<18446744073709551616:=by rw[<-hCR];exact Ig hlb
 have KF:Hid (∀ (E WB:Nat) (v:Value) (u:World),Bc E WB (B2 c) v u->Calls prog 18 #[.pointer (some ⟨WB,0,none⟩),.int .u64 (CR:Int),.int .i64 8] u fun e w'=>e=.returned (.tuple #[])/\Below E u w'/\∃v',Bc E WB (B2 c++AK 8 CR) v' w'/\Ba WB v u v' w'):=fun E WB v u a=>E4 E WB (B2 c) v u a CR hcr 8 oM oM;have HEN:=A6 hEN;obtain⟨BD,hBD⟩:∃l,B2 c=l:=⟨_,rfl⟩
 obtain⟨EN,hENc⟩:∃l,BB c=l:=⟨_,rfl⟩
 simp only[hBD,hENc]at KW KP KF HEN hle hel hlb |-;have HBP:Hid (0<BD.length):=by rw[<-hBD];show 0<(B2 c).length;omega
 have HLB:=A6 hlb;have HLE:=A6 hle;have HEL:=A6 hel;obtain⟨e2,he2⟩:∃e,(Az c).2=e:=⟨_,rfl⟩
 rw[hc,he2]at KC;have HB0:=A6 hb0;have HS0:=A6 hs0;clear hk hv he2 hb0 hs0 hok hlb hmk hbl hcl hle hel hCR hEN hcr hBD hENc hc;go_enter func8,ntmps8;go_upto_region 1 with fail;try rw[hW0]
 clear hW0;go_upto_region 4 with(go_at_call 16;(with_reducible refine KC.out.mono ?_);rintro e9 w4 ⟨rfl,hb4⟩;have HB4:=A6 hb4;clear hb4)
 have KW4:=A6 (KW.out w4 HB4.out);go_upto_region 6 with(go_at_call 17;(with_reducible refine KW4.out.mono ?_);rintro e9 w5 ⟨rfl,hb5,v5,hm5,ho5⟩;have HB5:=A6 hb5;have HM5:=A6 hm5;clear hb5 hm5 ho5)
 obtain⟨p5,q5,hv5,hcv⟩:=HM5.str HLB.out HBP.out;subst hv5;have b5:w5.cell? ⟨w4.heap.size,0,none⟩=some (.slice p5 BD.length q5):=HM5.b.cell (i:=0) dE;have KF5:=A6 (KF.out _ _ _ _ HM5.out);go_upto_region 7 with(first
  |(go_at_call 19;(with_reducible refine(KP.out _).mono ?_);rintro e9 w6 ⟨rfl,rfl⟩)
  |(go_at_call 18;(with_reducible refine KF5.out.mono ?_);rintro e9 w7 ⟨rfl,hb7,v7,hm7,ho7⟩;have HB7:=A6 hb7;have HM7:=A6 hm7;clear hb7 hm7 ho7))
 have HM8:=HM7.out;rw[<-HEN.out]at HM8;obtain⟨p7,q7,hv7,hcw⟩:=HM8.str HLE.out HEL.out;subst hv7;have b7:w7.cell? ⟨w4.heap.size,0,none⟩=some (.slice p7 EN.length q7):=HM8.b.cell (i:=0) dE;have HBZ:Hid (Below w.heap.size w w7):=by
  have h1:Below W0.heap.size W0 (w4.alloc (.cells #[.slice none 0 0] 51)):=bel HB4.out (A5 _ _);have h2:Below w4.heap.size (w4.alloc (.cells #[.slice none 0 0] 51)) w7:=HB5.trans HB7.out;exact bel HB0.out (h1.trans (h2.mono HB4.size))
 clear HM5 HM7 HM8 HB5 HB7 HB4 hcv b5;go_wp2;refine bodyPost_ret (by simp[results,results8,go_sem, *];try rfl) rfl ?_;exact⟨rfl,HBZ.out⟩
end Go.Proofs.YtnlgkkbmbijndaaGreat
