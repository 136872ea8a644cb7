import Derived.Shelf.SlIter.Nil
import Derived.Test.YtbkjmamcnflncaaGreatDoorQt42
namespace Go.Proofs
open Go.Shelf
def Tryz.Ez:Go.Shelf.Ren:=⟨λ|7=>112|10=>174|n=>n,λ|23=>202|26=>9|3=>3|28=>193|0=>0|27=>192|33=>195|4=>4|n=>n,λ|n=>n⟩
theorem Tryz.Yg:Go.Proofs.SlLaysZ.n7 prog Tryz.Ez:={
 mixed:=by kernel_rfl
 f7:=⟨Tryz.f112.name,by decide,func112.trans (congrArg some (by kernel_rfl))⟩
 f10:=⟨Tryz.f174.name,by decide,func174.trans (congrArg some (by kernel_rfl))⟩
 t0:=underlying0
 a0:=Tryz.isAgg0
 z0:=Tryz.sizeOf0
 v0:=Tryz.zeroValue0
 t4:=underlying4
 a4:=Tryz.isAgg4
 z4:=Tryz.sizeOf4
 v4:=Tryz.zeroValue4
 t23:=underlying202
 a23:=Tryz.isAgg202
 z23:=Tryz.sizeOf202
 v23:=Tryz.zeroValue202
 t26:=underlying9
 a26:=Tryz.isAgg9
 z26:=Tryz.sizeOf9
 v26:=Tryz.zeroValue9
 t27:=underlying192
 a27:=Tryz.isAgg192
 z27:=Tryz.sizeOf192
 v27:=Tryz.zeroValue192
 t28:=underlying193
 a28:=Tryz.isAgg193
 z28:=Tryz.sizeOf193
 v28:=Tryz.zeroValue193
 t33:=underlying195
 a33:=Tryz.isAgg195
 z33:=Tryz.sizeOf195
 v33:=Tryz.zeroValue195}
def Tryz.zf:Go.Shelf.Ren:=⟨λ|6=>111|8=>172|9=>173|11=>234|13=>236|12=>235|23=>302|24=>280|14=>293|15=>294|16=>295|17=>296|18=>297|19=>298|20=>299|21=>300|22=>301|25=>337|26=>338|27=>339|28=>340|29=>341|30=>342|31=>363|n=>n,λ|26=>9|28=>193|24=>22|0=>0|3=>3|37=>321|48=>359|50=>307|4=>4|40=>376|39=>375|45=>205|5=>5|9=>9|51=>422|55=>426|57=>450|58=>54|33=>195|n=>n,λ|n=>n⟩
theorem Tryz.a0G:Go.Proofs.SlLaysZ.n6 prog Tryz.zf:={
 mixed:=by kernel_rfl
 f6:=⟨Tryz.f111.name,by decide,func111.trans (congrArg some (by kernel_rfl))⟩
 f8:=⟨Tryz.f172.name,by decide,func172.trans (congrArg some (by kernel_rfl))⟩
 f11:=⟨Tryz.f234.name,by decide,func234.trans (congrArg some (by kernel_rfl))⟩
 t0:=underlying0
 a0:=Tryz.isAgg0
 z0:=Tryz.sizeOf0
 v0:=Tryz.zeroValue0
 t24:=underlying22
 a24:=Tryz.isAgg22
 z24:=Tryz.sizeOf22
 v24:=Tryz.zeroValue22
 t26:=underlying9
 a26:=Tryz.isAgg9
 z26:=Tryz.sizeOf9
 v26:=Tryz.zeroValue9
 t28:=underlying193
 a28:=Tryz.isAgg193
 z28:=Tryz.sizeOf193
 v28:=Tryz.zeroValue193
 i26:=by kernel_rfl}
def Tryz.Tp:Go.Shelf.Ren:=⟨λ|6=>173|8=>236|9=>235|19=>302|20=>280|21=>293|22=>294|23=>295|24=>296|25=>297|26=>298|27=>299|28=>300|29=>301|36=>337|31=>338|32=>339|37=>340|38=>341|39=>342|41=>363|n=>n,λ|27=>22|29=>9|3=>3|32=>321|26=>22|0=>0|44=>359|46=>307|4=>4|36=>376|35=>375|41=>205|5=>5|9=>9|53=>422|57=>426|63=>450|64=>54|n=>n,λ|n=>n⟩
theorem Tryz.Yh:Go.Proofs.SlLaysM.n6 prog Tryz.Tp:={
 mixed:=by kernel_rfl
 f6:=⟨Tryz.f173.name,by decide,func173.trans (congrArg some (by kernel_rfl))⟩
 f8:=func236.trans (congrArg some (by kernel_rfl))
 f9:=⟨Tryz.f235.name,by decide,func235.trans (congrArg some (by kernel_rfl))⟩
 f19:=func302.trans (congrArg some (by kernel_rfl))
 f20:=func280.trans (congrArg some (by kernel_rfl))
 f21:=⟨Tryz.f293.name,by decide,func293.trans (congrArg some (by kernel_rfl))⟩
 f22:=⟨Tryz.f294.name,by decide,func294.trans (congrArg some (by kernel_rfl))⟩
 f23:=⟨Tryz.f295.name,by decide,func295.trans (congrArg some (by kernel_rfl))⟩
 f24:=⟨Tryz.f296.name,by decide,func296.trans (congrArg some (by kernel_rfl))⟩
 f25:=⟨Tryz.f297.name,by decide,func297.trans (congrArg some (by kernel_rfl))⟩
 f26:=⟨Tryz.f298.name,by decide,func298.trans (congrArg some (by kernel_rfl))⟩
 f27:=⟨Tryz.f299.name,by decide,func299.trans (congrArg some (by kernel_rfl))⟩
 f28:=⟨Tryz.f300.name,by decide,func300.trans (congrArg some (by kernel_rfl))⟩
 f29:=⟨Tryz.f301.name,by decide,func301.trans (congrArg some (by kernel_rfl))⟩
 f31:=func338.trans (congrArg some (by kernel_rfl))
 f32:=func339.trans (congrArg some (by kernel_rfl))
 f36:=⟨Tryz.f337.name,by decide,func337.trans (congrArg some (by kernel_rfl))⟩
 f37:=⟨Tryz.f340.name,by decide,func340.trans (congrArg some (by kernel_rfl))⟩
 f38:=⟨Tryz.f341.name,by decide,func341.trans (congrArg some (by kernel_rfl))⟩
 f39:=⟨Tryz.f342.name,by decide,func342.trans (congrArg some (by kernel_rfl))⟩
 f41:=⟨Tryz.f363.name,by decide,func363.trans (congrArg some (by kernel_rfl))⟩
 t0:=underlying0
 a0:=Tryz.isAgg0
 z0:=Tryz.sizeOf0
 v0:=Tryz.zeroValue0
 t3:=underlying3
 a3:=Tryz.isAgg3
 z3:=Tryz.sizeOf3
 v3:=Tryz.zeroValue3
 t4:=underlying4
 a4:=Tryz.isAgg4
 z4:=Tryz.sizeOf4
 v4:=Tryz.zeroValue4
 t5:=underlying5
 a5:=Tryz.isAgg5
 z5:=Tryz.sizeOf5
 v5:=Tryz.zeroValue5
 t9:=underlying9
 a9:=Tryz.isAgg9
 z9:=Tryz.sizeOf9
 v9:=Tryz.zeroValue9
 t26:=underlying22
 a26:=Tryz.isAgg22
 z26:=Tryz.sizeOf22
 v26:=Tryz.zeroValue22
 t27:=underlying22
 a27:=Tryz.isAgg22
 z27:=Tryz.sizeOf22
 v27:=Tryz.zeroValue22
 t29:=underlying9
 a29:=Tryz.isAgg9
 z29:=Tryz.sizeOf9
 v29:=Tryz.zeroValue9
 t32:=underlying321
 a32:=Tryz.isAgg321
 z32:=Tryz.sizeOf321
 v32:=Tryz.zeroValue321
 t35:=underlying375
 a35:=Tryz.isAgg375
 z35:=Tryz.sizeOf375
 v35:=Tryz.zeroValue375
 t36:=underlying376
 a36:=Tryz.isAgg376
 z36:=Tryz.sizeOf376
 v36:=Tryz.zeroValue376
 t41:=underlying205
 a41:=Tryz.isAgg205
 z41:=Tryz.sizeOf205
 v41:=Tryz.zeroValue205
 t44:=underlying359
 a44:=Tryz.isAgg359
 z44:=Tryz.sizeOf359
 v44:=Tryz.zeroValue359
 t46:=underlying307
 a46:=Tryz.isAgg307
 z46:=Tryz.sizeOf307
 v46:=Tryz.zeroValue307
 t53:=underlying422
 a53:=Tryz.isAgg422
 z53:=Tryz.sizeOf422
 v53:=Tryz.zeroValue422
 t57:=underlying426
 a57:=Tryz.isAgg426
 z57:=Tryz.sizeOf426
 v57:=Tryz.zeroValue426
 t63:=underlying450
 a63:=Tryz.isAgg450
 z63:=Tryz.sizeOf450
 v63:=Tryz.zeroValue450
 t64:=underlying54
 a64:=Tryz.isAgg54
 z64:=Tryz.sizeOf54
 v64:=Tryz.zeroValue54}
open Go.RowKit Go.Maps Go.Sort Go.Shelf
theorem Tryz.a5q (m:Nat):AnyZ.SortsIn prog Tryz.zf Fence.wide m:=
 ⟨λc d a f W g b e=>callsIn_wide.2 (AnyM.slices_Sort_string Tryz.Yh c d a f W g b e),
  λp a W=>callsIn_wide.2 (AnyM.slices_Sort_string_none Tryz.Yh p a W)⟩
theorem Tryz.Tq (a:Option Nat)(W:World):CallsIn Fence.wide 5 prog 112 #[.map a] W λe w'=>e=.returned (.func (.func 174) #[] #[.pointer (some ⟨W.heap.size,0,none⟩)])/\w'=W.alloc (.cells #[.map a] 202):=
 AnyZ.keys_in Tryz.Yg Fence.wide 5 trivial rfl a W
set_option maxHeartbeats 1000000 in
theorem Tryz.Fa {H:Type}(b k:Nat)(d:DataW H)(R:Value->Option (DataW H×List MemPlace))(w:World)(c:w.ownsMap prog 9 R b k d)(h:Maps.size d<=maxLen)(a:Maps.size d*16<=140737488355328):
  CallsIn Fence.wide 5 prog 111 #[.func (.func 174) #[] #[.pointer (some ⟨w.heap.size,0,none⟩)]] (w.alloc (.cells #[.map (some b)] 202)) λe w'=>∃(v:Value) (g:List (List UInt8)),e=.returned v/\g.Perm (strKeys d)/\
   w'.ownsRow (w.alloc (.cells #[.map (some b)] 202)).heap.size 9 1 v g.length ((g.mergeSort (λx y=>decide (x<=y))).map encStr)/\(v=.slice none 0 0↔g=[])/\Below (w.alloc (.cells #[.map (some b)] 202)).heap.size (w.alloc (.cells #[.map (some b)] 202)) w':=by
 have j:=c.lt;have i:SeqGives Fence.wide 2 prog 174 #[.pointer (some ⟨w.heap.size,0,none⟩)] encStr (λg=>g.Perm (strKeys d)) (Maps.size d) (w.alloc (.cells #[.map (some b)] 202)):=
  AnyZ.keys_gives (ρ:=Tryz.Ez) {Tryz.Yg with} Fence.wide _ trivial rfl (by omega) w.heap.size b k d _ (by simp) (by simp) (by
   obtain⟨l,f,m,Ft,n,o⟩:=c;exact⟨l,f,(Below.heap_alloc _ _ b j).trans m,Ft,n,o⟩)
 exact AnyZ.sorted_in Tryz.a0G Fence.wide 5 trivial trivial trivial trivial rfl (by omega) (Tryz.a5q _) (enters_of func173 (by kernel_rfl) rfl) 174 #[.pointer (some ⟨w.heap.size,0,none⟩)] trivial (enters_of func174 (by kernel_rfl) rfl) _ _ h a _ i
end Go.Proofs
namespace Go.Proofs.YtbkjmamcnflncaaGreatDoor
open Go.Proofs.Tryz
set_option maxHeartbeats 8000000
section
open Go.RowKit Go.Maps Go.Sort Go.WideMaps
set_option maxRecDepth 20000
abbrev tl (l:List aO):List By:=l.map λs=>s.data.toList
theorem a9r (l:List aO)(k:Nat){s:aO}(h:l[k]? =some s):tl (l.take (k+1))=tl (l.take k)++[s.data.toList]:=by
 rw[eX,h];simp[tl]
abbrev nmC (N:List By):List aO:=N.map λs=>⟨s.toArray⟩
theorem adA (N:List By):N.map encStr=(nmC N).map .string:=by simp[nmC,encStr]
theorem a9s:(prog.info? 3).map (λi=>(i.zero,i.size,i.bytes))=some (some (.int .i64 0),1,8):=aA
abbrev VY (T:List By)(N:List By):List ax:=N.map λs=>.int .i64 (T.count s:Nat)
theorem a0H (l:List aO)(o:Option Addr)(C:Nat)(n h:Int)(w:ai)(hl:l.length<=1000)(hs:∀s∈l,s.size<=300)(hT:oH w o l):
  aL 58 #[.agg #[.int .i64 n,.int .i64 h,.slice o l.length C]] w λe W=>∃N v1 v2,e=ay (.tuple #[v1,v2])/\yg (tl l) N/\W.ownsRow w.heap.size 9 1 v1 N.length (N.map encStr)/\W.ownsRow w.heap.size 3 1 v2 N.length (VY (tl l) N)/\Below w.heap.size w W:=by
 have c3:=@run_makeMap prog;have b0:=dz w (ak #[.int .i64 n,.int .i64 h,.slice o l.length C] 81);have r0:=fE w (ak #[.int .i64 n,.int .i64 h,.slice o l.length C] 81);go_enter func58,ntmps58;go_upto_region 1 with fail;obtain⟨U,hU⟩:∃U,w.alloc (ak #[.int .i64 n,.int .i64 h,.slice o l.length C] 81)=U:=⟨_,rfl⟩;rw[hU] at b0 r0⊢;clear hU;have M:w.heap.size<U.heap.size:=(eY.1 r0).1;have b1:=dz U (.map #[] 0);have hM:=xB.made U;go_upto_region 2 with fail;obtain⟨V,hV⟩:∃V,U.alloc (.map #[] 0)=V:=⟨_,rfl⟩;obtain⟨B,hB⟩:∃B,U.heap.size=B:=⟨_,rfl⟩;rw[hV] at b1 hM⊢;have r1:=(b1.block _ M).trans r0;have bB:Below B U V:=by rw[<- hB];exact b1
 rw[hB] at hM M⊢;have HB:=aF hB;clear hV hB b1;obtain⟨p0,p1,p2, -, -, -⟩:=pF.of r1;have a5:=hT.below b0;go_wp2_with fail;clear p0 p1 p2
 go_loopw [13] (λi wr=>∃k:Nat,k<=l.length/\i=.int .i64 k/\xB wr B k (tl (l.take k))/\Below B U wr) (λi _=>l.length-(intOf i).toNat)
 case atStart=>exact⟨0,bA _,rfl,hM,bB⟩
 case round=>
  obtain⟨k,hk,rfl,hm,hb⟩:=hrel;have uP:Below U.heap.size U wr:=by rw[HB.out];exact hb
  by_cases H:k<l.length
  .have O:(k:Int)<(l.length:Int):=aa;obtain⟨s,d⟩:∃s,l[k]? =some s:=⟨_,fD H⟩;obtain⟨b,a6,rfl,c0⟩:=a5.below uP k s d;have E:s.size<=maxLen:=by have:=hs s (ic d);simp only[maxLen];omega
   have f:=hm.get E;have F:=keyOf_string_mk (P:=prog) underlying9 E;obtain⟨D,A,j⟩:=hm;have a7:(tl (l.take k)).count s.data.toList<=1000:=bO List.count_le_length (by simp[tl];omega);have HT:Hid (tl (l.take (k+1))=tl (l.take k)++[s.data.toList]):=a9r l k d;clear d;obtain⟨K,p⟩:∃K,(tl (l.take k)).count s.data.toList=K:=⟨_,rfl⟩;rw[p] at f a7;have HC:=aF p;clear p;go_wp2_with(first|(at_mapUpdate;refine wpList_mapUpdate_own _ rfl _ _ _ 202 rfl 9 3 xA underlying202 _ B k _ rfl A (by simp only[maxLen];omega) _ _ _ rfl rfl F (.lit (.int .i64 ((K:Int)+1))) [] (plainElem_int underlying3 (by simp[Lit.wf,IntKind.min,IntKind.max,IntKind.signed,IntKind.bits];omega)) ?_;intro w1 q g)|go_in);have a8:xB w1 B (k+1) (tl (l.take (k+1))):=by
    rw[HT.out];refine xB.step A j ?_;rw[HC.out];exact q
   have a9:Below B U w1:=hb.grown g (by have:=A.lt;omega) (λr e=>by cases e;exact bJ _);clear q g A j f F;go_wp2_with fail
   go_roundw
   case rel=>exact⟨k+1,aa,by go_num,a8,a9⟩
   case measure=>simp[intOf];omega
  .obtain rfl:k=l.length:=aa;rw[gJ] at hm;obtain⟨D,A,j⟩:=hm;have E:=A.size_le;have KY:=dM.1 (Tryz.Tq (some B) wr);have SO:=dM.1 (Tryz.Fa B l.length D _ wr A (by simp only[maxLen];omega) aa);have t:=xB.keys A j;have bK:=dz wr (ak #[.map (some B)] 202);have Q:=aF j;clear j;go_upto_region 8 with(first|(go_at_call 111;refine SO.mono ?_;rintro e L ⟨v1,I,rfl,hS,y, -,b3⟩)|(go_at_call 112;refine KY.mono ?_;rintro e w2 ⟨rfl,rfl⟩));clear KY SO;have sM:=aP bK b3;have yX:=aP b0 (aP uP sM);have hN:yg (tl l) (I.mergeSort leB):=vo (hS.trans t.symm);have R:(I.mergeSort leB).length=I.length:=List.length_mergeSort I;have a:L.ownsRow (wr.heap.size+1) 9 1 v1 (I.mergeSort leB).length ((I.mergeSort leB).map encStr):=by
    rw[R];have:(wr.alloc (ak #[.map (some B)] 202)).heap.size=wr.heap.size+1:=aI;rw[this] at y;exact y
   clear y hS R;generalize I.mergeSort leB=N at hN a;have b2:xB L B l.length (tl l):=xB.below ⟨D,A,Q.out⟩ sM;clear A Q t E;have c4:N.length<=1000:=by
    have h1:=hN.perm.length_eq;have h2:(XM (tl l)).length<=(tl l).length:=(um (tl l)).length_le_of_subset (λx hx=>(vg (tl l) x).1 hx);have h3:(tl l).length=l.length:=dP _;omega
   have b4:∀s∈N,s.length<=300:=λs b5=>by
    obtain⟨c,hc,rfl⟩:=gL.1 (hN.mem b5);exact hs c hc
   have S:=gz a (show w.heap.size<=wr.heap.size+1 by have:=b0.size;have:=uP.size;omega);rw[adA] at a;obtain⟨o1,c1,rfl, -, -,b6⟩:=oH.own a;have J:(nmC N).length=N.length:=by simp[nmC]
   have c5:=aF J;rw[J] at S⊢;clear J a;obtain⟨i0,hi,b7,b8,b9⟩:=info_parts a9s;go_wp2_with fail
   go_loopw [3,27] (λv i T=>∃k:Nat,k<=N.length/\i=.int .i64 k/\T.ownsRow L.heap.size 3 1 v k (VY (tl l) (N.take k))/\Below L.heap.size L T) (λ_ i _=>N.length-(intOf i).toNat)
   case atStart=>exact⟨0,bA _,rfl,gp _ _ _ _,aW _ _⟩
   case round=>
    obtain⟨k,hk,rfl,z,m⟩:=hrel;by_cases H:k<N.length
    .have O:(k:Int)<(N.length:Int):=aa;obtain⟨s,d⟩:∃s,N[k]? =some s:=⟨_,fD H⟩;obtain⟨b,a6,rfl,c0⟩:=b6.below m k ⟨s.toArray⟩ (by rw[nmC,jv,d];rfl);have c6:=b4 s (ic d);have X:=(b2.below m).get (s:=⟨s.toArray⟩) (by show s.toArray.size<=maxLen;simp only[jw,maxLen];omega);have f:(Instr.lookup 202 (.map (some B)) (.string ⟨s.toArray⟩) false).run prog wr=.ok (.int .i64 ((tl l).count s:Nat)) wr:=X;clear X;have Y:VY (tl l) (N.take (k+1))=VY (tl l) (N.take k)++[.int .i64 ((tl l).count s:Nat)]:=by rw[VY,eX,d];simp
     have Z:=aF Y;have a4:=aF z;have c2:=m.size;generalize p:(tl l).count s=K at f Z;have H0:=fE wr (ak #[.int .i64 (K:Int)] 3);clear d Y p;go_wp2_with(at_builtin;refine wpList_append_own _ rfl _ _ 35 rfl L.heap.size 3 i0 (.int .i64 0) 1 8 underlying35 hi b7 b8 b9 rfl aC _ _ _ rfl (iF a4.out _) ⟨wr.heap.size,0,none⟩ 1 1 [.int .i64 (K:Int)] rfl rfl (World.news_of_block H0) (λu hu=>by simp at hu;subst hu;rfl) (by simp only[maxLen];omega) aa bq ?_;intro v7 w7 kN lJ _)
     go_roundw
     case rel=>
      refine⟨k+1,aa,by go_num,by rw[Z.out];exact kN,(m.alloc c2 _).grown lJ bq (λr e=>(a4.out.lt r e).1)⟩
     case measure=>simp[intOf];omega
    .obtain rfl:k=N.length:=aa;rw[gJ] at z;go_wp2_with fail;refine bg (results_tmp2 rfl _ _ _) rfl ?_;refine⟨N,_,_,rfl,hN,own_below S m,gz z (by have:=yX.size;omega),aP yX m⟩
end
section
theorem a5r (l:List Pm)(c:Qt):oG l c=a7X\/∃s∈l,oG l c=s.fill:=by
 induction l with
 |nil=>exact .inl rfl
 |cons s l a=>
  rw[oG];grind
theorem Mi (l:List Pm)(w:Nat)(b:∀s∈l,s.fill.size<=300):∀h:Nat,∀c∈nM bT l w h,c.size<=300
 |0,c,a=>by cases a
 |h+1,c,a=>by
  rw[xZ] at a;rcases iw.1 a with a|a
  .exact Mi l w b h c a
  .obtain⟨x, -,rfl⟩:=gL.1 a;rcases a5r ((l.filter λs=>bT s.pts (h:Int)).reverse) (nP (x:Int) h) with e|⟨s,d,e⟩
   .show(oG _ _).size<=300;rw[e];decide
   .show(oG _ _).size<=300;grind
end
open Go.RowKit Go.Maps Go.Shelf
set_option maxRecDepth 20000
def VZ (L:List aO):List By:=(XM (tl L)).mergeSort leB
theorem a0I {T N:List By}(h:yg T N):N=(XM T).mergeSort leB:=by
 have c:=vo (List.Perm.refl (XM T));exact List.Perm.eq_of_pairwise (λa b _ _ d e=>List.le_antisymm d e) h.rise c.rise (h.perm.trans c.perm.symm)
abbrev Oj (L:List aO)(x:By):aO:=wrd ⟨x.toArray⟩ (yY (((tl L).count x:Nat):Int))
theorem a9t {l:List Pc}(a:∀x∈l,x.fill.length<=300):∀c∈nM bT (l.map iB) 8 6,c.size<=300:=
 Mi _ 8 (λs b=>by
  obtain⟨x,d,rfl⟩:=gL.1 b;have:=a x d;simpa[iB,ByteArray.size] using this) 6
variable {E:Nat->Addr}{T:Nat->Bs}{P:Ps}{s:Stp}
theorem a5s (M:∀x∈s.l,x.fill.length<=300):CmF E T 12 P 0 (bS (rQ ((VZ (nM bT (s.l.map iB) 8 6)).map (Oj (nM bT (s.l.map iB) 8 6))))) s s:=by
 refine vB λV PB B X W LB DB h o a BN ho=>?_;have b0:=dR W (ak (jl o P.ns.length a P.nm P.tx) 62);have O:=h.below b0;obtain⟨U,hU⟩:∃U,W.alloc (ak (jl o P.ns.length a P.nm P.tx) 62)=U:=⟨_,rfl⟩;rw[hU] at b0 O;have p0:=aQ O.box 0 _ rfl;obtain⟨r,hL⟩:=O.lv.e;have PC:=hL.XU aC aC aC aC;have f:=a9t M;have v:(nM bT (s.l.map iB) 8 6).length=48:=lY bT _ 8 6;have HE:Hid (∀V,aD U V->NE E V):=λV hV=>(O.pe.below hV).ne;have HB:=aF b0;obtain⟨L,Q⟩:∃L,nM bT (s.l.map iB) 8 6=L:=⟨_,rfl⟩;rw[Q] at PC f v⊢;have CN:∀V g a B0,V.ownsRow B0 9 1 (aj (some ⟨g,0,none⟩) (8*6) a) (8*6) (L.map au)->aL 58 #[.agg #[ag 8,ag 6,aj (some ⟨g,0,none⟩) 48 a]] V λe w'=>∃F R H S n,e=ay (aH #[aj F n R,aj H n S])/\Hid ((VZ L).length=n/\n<=48/\w'.ownsRow V.heap.size 9 1 (aj F n R) n ((VZ L).map encStr)/\w'.ownsRow V.heap.size 3 1 (aj H n S) n (VY (tl L) (VZ L)))/\aD V w':=λV g a B0 b4=>by
  obtain⟨o',c',w, -, -,hT⟩:=oH.own (l:=L) b4;obtain rfl:some ⟨g,0,none⟩=o':=by injection w
  have CA:=a0H L (some ⟨g,0,none⟩) a 8 6 V aa f hT;rw[v] at CA;refine CA.mono λe w' ⟨N,v1,v2,I,Y,g3,g4,g5⟩=>?_;obtain rfl:N=VZ L:=a0I Y;obtain⟨F,R,rfl⟩:=bD g3;obtain⟨H,S,rfl⟩:=bD g4;refine⟨F,R,H,S,_,I,⟨rfl,?_,g3,g4⟩,g5⟩;have h1:=Y.perm.length_eq;have h2:=(um (tl L)).length_le_of_subset (λx p=>(vg (tl L) x).1 p);have h3:(tl L).length=L.length:=dP _;omega
 have b:Hid (∀x∈VZ L,x.length<=300/\(tl L).count x<=48):=λx p=>by
  have h2:=(vo (List.Perm.refl (XM (tl L)))).mem p;obtain⟨y,hy,rfl⟩:=gL.1 h2;refine⟨f y hy,bO List.count_le_length ?_⟩;have h3:(tl L).length=L.length:=dP _;omega
 obtain⟨i0,hi,b5,b6,b7⟩:=info_parts CZ;obtain⟨N,hN⟩:∃N,VZ L=N:=⟨_,rfl⟩;simp only[hN] at CN b⊢;clear h O ho hL f v Q hN b0 M;go_enter func31,ntmps31;go_upto_region 1 with fail
 try rw[hU]
 go_upto_region 3 with(first|(go_at_call 49;refine PC.mono ?_;rintro e w1 ⟨g,b8,rfl,ow,b1⟩)|(go_at_call 58;refine(CN w1 g b8 _ ow).mono ?_;rintro e Z ⟨F,R,H,S,n,rfl,q,b2⟩));have a4:Hid (aD U Z):=bf b1 b2;have d1:=q.out.2.1;clear CN PC ow b1 b2 hU p0;go_wp2_with fail
 go_loopw [8,22] (λu i wr=>∃(k:Nat) (o:Option Addr) (m a:Nat),k<=n/\u=aj o m a/\i=ag k/\m=k/\wr.ownsRow Z.heap.size 9 1 (aj o m a) m (((N.take k).map (Oj L)).map au)/\aD Z wr) (λ_ i _=>n-(intOf i).toNat)
 case atStart=>exact⟨0,none,0,0,bA _,rfl,rfl,rfl,gp _ _ _ _,aW _ _⟩
 case round=>
  obtain⟨k,o,m,a,hk,rfl,rfl,hm,c,J⟩:=hrel;have HM:=aF hm;have d2:m<=k:=aa;clear hm;by_cases b9:k<n
  .have d0:(k:Int)<(n:Int):=aa;obtain⟨x,p⟩:∃x,N[k]? =some x:=⟨_,fD (by rw[q.out.1];exact b9)⟩;obtain⟨a5,c0⟩:=b.out x (ic p);obtain⟨I,a6,a7⟩:=eF (bY q.out.2.2.1 J) k _ (by rw[jv,p];rfl);obtain⟨Y,a8,a9⟩:=eF (bY q.out.2.2.2 J) k _ (by unfold VY;rw[jv,p];rfl);obtain rfl:F=some ⟨I,0,none⟩:=by
    rcases q.out.2.2.1.2 with⟨_,w⟩|⟨I,c3,c4,w,_⟩
    .omega
    .cases w;cases a6;rfl
   obtain rfl:H=some ⟨Y,0,none⟩:=by
    rcases q.out.2.2.2.2 with⟨_,w⟩|⟨I,c3,c4,w,_⟩
    .omega
    .cases w;cases a8;rfl
   have A:kU (((tl L).count x:Nat):Int):=⟨aa,aa⟩;have IT:=Fx _ (yY (((tl L).count x:Nat):Int)) wr A rfl (HE.out wr (aP a4.out J)).tab;have c5:=D9 A;have HT:Hid (((N.take (k+1)).map (Oj L)).map Value.string=((N.take k).map (Oj L)).map Value.string++[au (Oj L x)]):=by
    show _=_;rw[eX,p];simp
   obtain⟨z,hz⟩:∃z:Nat,(tl L).count x=z:=⟨_,rfl⟩;obtain⟨C,D⟩:∃C,yY (((tl L).count x:Nat):Int)=C:=⟨_,rfl⟩;obtain⟨d,Pn⟩:∃d:aO,⟨x.toArray⟩=d:=⟨_,rfl⟩;have c6:Hid (Oj L x=d++⟨#[58]⟩++C):=by
    show wrd _ _=_;unfold wrd;rw[Pn,D]
   have d3:d.size<=300:=by rw[<- Pn];simpa[ByteArray.size] using a5
   rw[D] at IT c5;have d4:wr.cell? (aJ I k)=some (au d):=by rw[<- Pn];exact a7
   have c8:wr.cell? (aJ Y k)=some (ag (((tl L).count x:Nat):Int)):=a9;rw[hz] at IT c8;have hA:¬9223372036854775807<d.size+1:=aa;have d6:¬9223372036854775807<d.size+1+C.size:=aa;clear p a6 a8 Pn D hz A a5 c0 a7 a9;go_upto_region 6 with fail;go_upto_region 7 with(first|(go_at_call 45;refine IT.mono ?_;rintro e w3 ⟨rfl,b3⟩;have yP:=iF (bY c b3) (ak #[au (d++⟨#[58]⟩++C)] 9);have H0:=fE w3 (ak #[au (d++⟨#[58]⟩++C)] 9);have d7:=b3.size;have d8:=J.size)|(at_builtin;refine wpList_append_own _ rfl _ _ 22 rfl Z.heap.size 9 i0 (au ⟨#[]⟩) 1 16 underlying22 hi b5 b6 b7 rfl aC _ _ _ rfl yP ⟨w3.heap.size,0,none⟩ 1 1 [au (d++⟨#[58]⟩++C)] rfl rfl (World.news_of_block H0) (λu hu=>by simp at hu;subst hu;rfl) (by simp only[maxLen];omega) aa bq ?_;intro v7 w7 kN lJ _;obtain⟨o7,c7,rfl⟩:=bD kN));go_wp2_with fail
   go_roundw
   case rel=>exact⟨k+1,o7,_,c7,aa,rfl,by go_num,by rw[HM.out],by rw[HT.out,c6.out];exact kN,((aP J b3).alloc aa _).grown lJ bq (λj hj=>(c.lt j hj).1)⟩
   case measure=>simp[intOf];omega
  .obtain rfl:k=n:=aa;have LT:=ve (W:=wr) (B:=Z.heap.size) (K:=1000) (N.map (Oj L)) (aj o m a) (by have h1:=c;rw[jH (Nat.le_of_eq q.out.1)] at h1;rw[dP,q.out.1,<- HM.out];exact h1) (λy hy=>by
    obtain⟨z,hz,rfl⟩:=gL.1 hy;obtain⟨z1,z2⟩:=b.out z hz;have:=D9 (n:=(((tl L).count z:Nat):Int)) ⟨aa,aa⟩;exact a5p (by simpa[ByteArray.size] using z1) aa) (by rw[dP,q.out.1];omega)
   obtain⟨t,ht⟩:∃t,rQ (N.map (Oj L))=t:=⟨_,rfl⟩;have c9:Hid (bS (rQ (N.map (Oj L)))=bS t):=by rw[ht];exact rfl
   rw[ht] at LT;have HW:=bf HB.out (aP a4.out J);clear ht;go_wp2_with(go_at_call 57;refine LT.mono ?_;rintro e w3 ⟨rfl,b3⟩)
   go_ret2
   exact⟨bf HW b3,bS t,_,rfl,.inl ⟨trivial,c9.out.symm,rfl⟩⟩
