import Derived.Test.YtbkjmamcnflncaaGreatDoorQt17
import Derived.Test.YtbkjmamcnflncaaGreatDoorQt14
import Derived.Test.YtbkjmamcnflncaaGreatDoorQt19
namespace Go.Proofs.YtbkjmamcnflncaaGreatDoor
open Go.Proofs.Tryz
set_option maxHeartbeats 8000000
section
open Go.RowKit Go.Shelf
set_option maxRecDepth 100000
attribute [local go_sem] Oper.semAt_some
def wtS (l:List Bs):Nat:=(l.map λt=>nQ (vH t)).sum
theorem a3e (l:List Bs)(x:Bs):wtS (l++[x])=wtS l+nQ (pts 0 x):=by
 unfold wtS;rw[iK,List.sum_append];simp[vH,pts]
theorem Xy (x:UInt8×Bs):OE x<=100:=by
 unfold OE;grind
theorem Ib:∀l:List (UInt8×Bs),nQ l<=100*l.length
 |[]=>bJ _
 |x::l=>by
  have b:=Xy x;have a:=Ib l;unfold nQ at a⊢;grind
theorem a3f:∀l:List Bs,(∀x∈l,x.length<=1000000)->wtS l<=100000100*l.length
 |[],_=>bJ _
 |x::l,h=>by
  have c:=Ib (pts 0 x);have d:=Fu x.length 0 x az;have e:=h x aI;have a:=a3f l (λy b=>h y (by simp[b]));unfold wtS at a⊢;rw[ny,List.sum_cons,eZ,show vH x=pts 0 x from rfl];omega
theorem Zv (s:Bs)(hs:s.length<=1000000)(W:ai):CallsIn Fence.wide 12 prog 233 #[.agg #[bV s]] W λe w'=>e=ay (ag (wtM s:Nat))/\aD W w':=by
 obtain⟨b6,J,L,M,b0⟩:=jL W (ak #[bV s] 105) (ak #[ag 0] 3) (ak #[bV s] 9);have c6:prog.follows .mixedOrders=true:=aA;refine callsIn_of_wp_marks func233 rfl trivial ?_ rfl;simp only[ntmps233,jw,eZ,iT,Nat.reduceAdd,Nat.reduceSub,jV,jU,jX,jW,gK,gH]
 gi_wp2_with (refine⟨trivial,?_⟩;gi_at_call 98;refine(dM.2 (Ea s _)).mono ?_;rintro e w1 ⟨rfl,H⟩;rw[H];clear H)
 obtain⟨U,hU⟩:∃U,(((W.alloc (ak #[bV s] 105)).alloc (ak #[ag 0] 3)).alloc (ak #[bV s] 9))=U:=⟨_,rfl⟩;rw[hU] at b0 b6 J L M⊢;clear hU;refine wpIn_rangeFunc_ownH rfl aa (gf:=159) (lb:=#[.pointer (some ⟨W.heap.size+1+1,0,none⟩)]) rfl trivial (enters_of func159 aA rfl)
  (encs:=λx:StB=>#[bV x.1]) (Kp:=wm (W.heap.size+1+1)) (S:=λO=>Lr O=jG s) (Sp:=λp=>Lr p<+:jG s) (N:=(jG s).length) (w0:=U)
  (Ls s hs _ _ U L) wm.trans (λX l o o' hl H h2 h3=>wm.put (w:=U) aa X l o o' hl H h2 h3) (aW _ _) (λ_=>rfl)
  (λpre X=>X.heap[W.heap.size+1]? =some (ak #[ag (wtS (Lr pre):Nat)] 3)/\aD W X/\U.heap.size<=X.heap.size)
  (λ_ _ _=>False)
  (λpre A C P hs d m=>⟨kH hs.1 aa d m,rX hs.2.1 aa d m,bO hs.2.2 d.size⟩)
  (λ_ _ _ _ _ h _ _=>h)
  ⟨J,b0,bJ _⟩
  (λx Q _=>Q={tmps:=#[.agg #[bV s],aK W.heap.size,ag 0,.pointer (some ⟨W.heap.size+1,0,none⟩),bV x.1,undef,undef,aK W.heap.size,bV s,.func (.func 159) #[] #[.pointer (some ⟨W.heap.size+1+1,0,none⟩)],bV x.1,undef,undef,undef,undef,undef,undef,undef,undef,undef,undef],defers:=[]})
  (λ_ _ _ _ _ _ h _ _=>h)
  ?assign ?body ?done ?stop
 case assign=>
  intro l pre x X K hI I
  gi_wp2
  exact I _ _ (KeepsFrom.refl _ _) rfl hI rfl
 case body=>
  rintro l pre x Q X hl ⟨r₀,b⟩ ⟨R,hb,hu⟩ rfl T;obtain⟨st,Z⟩:=x
  gi_wp2_with (refine⟨trivial,?_⟩;gi_at_call 161;refine(CallsIn.inRound l (dM.2 (xe st _))).mono ?_;rintro e w2 ⟨rfl,h⟩;rw[h];clear h)
  have a4:=fE X (ak #[bV st] 9);have n:(X.alloc (ak #[bV st] 9)).heap[W.heap.size+1]? =some (ak #[ag (wtS (Lr pre):Nat)] 3):=(Below.heap_alloc _ _ _ aa).trans R;have q:(X.alloc (ak #[bV st] 9)).heap[l]? =some (.loop r₀):=(Below.heap_alloc _ _ _ (by have:=(eY.1 b).1;omega)).trans b;have a5:aD W (X.alloc (ak #[bV st] 9)):=hb.alloc hb.size _;have a6:wm (W.heap.size+1+1) X (X.alloc (ak #[bV st] 9)):=Below.heap_alloc _ _ _ aa;have a7:KeepsFrom U.heap.size X (X.alloc (ak #[bV st] 9)):=(KeepsOthers.alloc _ _).from _;have b7:(X.alloc (ak #[bV st] 9)).heap.size=X.heap.size+1:=dV _ _;obtain⟨r,a8⟩:∃r,X.alloc (ak #[bV st] 9)=r:=⟨_,rfl⟩;rw[a8] at a4 n q a5 a6 a7 b7⊢;clear a8;have a9:=a3f (Lr pre) (λy hy=>by obtain⟨z, -,rfl⟩:=gL.1 hy;exact z.2);rw[dP] at a9;have c7:pre.length<=1000001:=by
   have:=qg (s.length+1) s;unfold jG at T;omega
  have b1:Hid (wtS (Lr pre++[st])=wtS (Lr pre)+nQ (pts 0 st)):=a3e _ _;obtain⟨f,b2⟩:∃f,wtS (Lr pre)=f:=⟨_,rfl⟩;rw[b2] at n a9 b1;clear b2 R;refine wpIn_rangeFunc_ownN (l₀:=l) (r₀:=r₀) rfl q aa (gf:=226) (lb:=#[aK X.heap.size]) rfl trivial (enters_of func226 aA rfl)
   (encs:=ptV) (Kp:=wm X.heap.size) (S:=λO=>zC O=pts 0 st) (Sp:=λp=>zC p<+:pts 0 st) (N:=(pts 0 st).length) (w0:=r)
   (SeqStopsK.inRound l (Cw st Z _ _ r a4)) wm.trans (λY l o o' hl H h2 h3=>wm.put (w:=r) aa Y l o o' hl H h2 h3) (aW _ _) (λ_=>rfl)
   (λa Y=>Y.heap[W.heap.size+1]? =some (ak #[ag (f+nQ (zC a):Nat)] 3)/\aD W Y/\KeepsFrom U.heap.size X Y/\wm (W.heap.size+1+1) X Y/\r.heap.size<=Y.heap.size)
   (λ_ _ _=>False)
   (λa A C P hs d m=>⟨kH hs.1 aa d m,rX hs.2.1 aa d m,ownFrom_keepsFrom (β:=Unit) (w₀:=X) (B':=r.heap.size) aa () A C P hs.2.2.1 d m,hs.2.2.2.1.trans (d.block _ aa (λe=>by have:=(m _ e.symm).1;omega)),bO hs.2.2.2.2 d.size⟩)
   (λ_ _ _ _ _ h _ _=>h)
   ⟨n,a5,a7,a6,bJ _⟩
   (λy Q _=>Q={tmps:=#[.agg #[bV s],aK W.heap.size,ag 0,.pointer (some ⟨W.heap.size+1,0,none⟩),bV st,.int .u8 y.1.1.toNat,bV y.1.2,aK W.heap.size,bV s,.func (.func 159) #[] #[.pointer (some ⟨W.heap.size+1+1,0,none⟩)],bV st,bV st,.func (.func 226) #[] #[aK X.heap.size],.int .u8 y.1.1.toNat,bV y.1.2,undef,undef,undef,undef,undef,undef],defers:=[]})
   (λ_ _ _ _ _ _ h _ _=>h)
   ?assign2 ?agc ?agd ?age
  case assign2=>
   intro l2 a y Y K hI I
   gi_wp2
   exact I _ _ (KeepsFrom.refl _ _) rfl hI rfl
  case agc=>
   rintro l2 a y Q Y q-⟨t,u,v,B,b3⟩ rfl c8;obtain⟨⟨k,g⟩,E⟩:=y;have c1:=dK t;have f1:=jf t;have WO:=λV=>Nn k g V;have b4:=Ib (zC a);have b8:=Fu st.length 0 st az;have b9:=Xy (k,g);rw[dP] at b4;have i:zC (a++[⟨(k,g),E⟩])=zC a++[(k,g)]:=aI;have HV:Hid (f+nQ (zC (a++[⟨(k,g),E⟩]))=(f+nQ (zC a))+OE (k,g)):=(by
    rw[i,Yq];simp[nQ];omega:f+nQ (zC (a++[⟨(k,g),E⟩]))=(f+nQ (zC a))+OE (k,g))
   have c0:f+nQ (zC a)<=1000000000000000:=aa;obtain⟨c,hc⟩:∃c,f+nQ (zC a)=c:=⟨_,rfl⟩;obtain⟨j,b5⟩:∃j,OE (k,g)=j:=⟨_,rfl⟩;rw[hc] at c1 t HV c0;rw[b5] at WO b9 HV;clear hc b5 i b4 b8;have c9:IntKind.i64.wrap ((c:Int)+(j:Int))=((c+j:Nat):Int):=by
    rw[IntWalk.i64_in _ aa];omega
   have h4:=jM t (ag ((c:Int)+(j:Int)));have c2:=aF h4;have c3:=(u.setCell (p:=⟨W.heap.size+1,0,none⟩) fZ (ag ((c:Int)+(j:Int)))).drew;have F:=(gT Y ⟨W.heap.size+1,0,none⟩ (ag ((c:Int)+(j:Int)))).trans (KeepsOthers.drew _);have c4:wm X.heap.size Y (Y.setCell ⟨W.heap.size+1,0,none⟩ (ag ((c:Int)+(j:Int)))).drew:=dw Y ⟨W.heap.size+1,0,none⟩ _ X.heap.size fZ;have c5:wm (W.heap.size+1+1) Y (Y.setCell ⟨W.heap.size+1,0,none⟩ (ag ((c:Int)+(j:Int)))).drew:=dw Y ⟨W.heap.size+1,0,none⟩ _ (W.heap.size+1+1) fZ;clear h4
   gi_wp2
   gi_region_with_o ((refine⟨trivial,?_⟩;gi_at_call 292;refine(CallsIn.inRound l2 (CallsIn.inRound l (dM.2 (WO _)))).mono ?_;rintro e w3 ⟨rfl,h⟩;rw[h];clear h))
   all_goals gi_wp2
   all_goals exact⟨F.from _,c4,by rw[HV.out,Int.natCast_add];exact c2.out,c3,v.trans (F.from _),B.trans c5,bO b3 F.size⟩
  case agd=>
   rintro O Y hS ⟨t,u,v,B,b3⟩;rw[hS] at t;have i:Lr (pre++[⟨st,Z⟩])=Lr pre++[st]:=aI
   gi_wp2
   exact⟨v,B,by rw[i,b1.out];exact t,u,aa⟩
  case age=>
   rintro c a Y-h;exact h.elim
 case done=>
  rintro D O X hD hS ⟨R,hb, -⟩ I;rw[hS] at R;have c1:=dK R
  gi_wp2
  refine⟨aI,.inl ⟨_,_,rfl,run_takeDeferred I,?_⟩⟩;refine⟨ag (wtS (jG s):Nat),?_,rfl,hb.trans (belowK_b (w:=W) az X D _ _ aa I rfl rfl)⟩;simp[results,results233,go_sem]
 case stop=>
  rintro D c pre X- - h -;exact h.elim
theorem UR (s:Bs)(hs:s.length<=1000000)(W:ai):aL 233 #[.agg #[bV s]] W λe w'=>e=ay (ag (wtM s:Nat))/\aD W w':=dM.1 (Zv s hs W)
end
section
open Go.RowKit Go.Shelf
set_option maxRecDepth 100000
attribute [local go_sem] Oper.semAt_some
theorem Zw (v nm:Bs)(f:v.length<=1000000)(W:ai):
  aL 290 #[aj (some ⟨W.heap.size,0,none⟩) (Lib.countB ⟨v.toArray⟩ ⟨#[32]⟩+1) (Lib.countB ⟨v.toArray⟩ ⟨#[32]⟩+1),au ⟨nm.toArray⟩] (W.alloc (ak ((Lib.splitB ⟨#[32]⟩ 0 (Lib.countB ⟨v.toArray⟩ ⟨#[32]⟩) ⟨v.toArray⟩).map Value.string).toArray 9)) λe w'=>e=ay (.bool (af4 v nm))/\w'=W.alloc (ak ((Lib.splitB ⟨#[32]⟩ 0 (Lib.countB ⟨v.toArray⟩ ⟨#[32]⟩) ⟨v.toArray⟩).map Value.string).toArray 9):=by
 have c:1<=(⟨#[32]⟩:aO).size:=aC;have a:=Lib.splitB_all ⟨#[32]⟩ c 0 _ (⟨v.toArray⟩:aO) rfl;have b:=Lib.countB_le ⟨#[32]⟩ c (⟨v.toArray⟩:aO).size ⟨v.toArray⟩ az;rw[gY] at b;have h:=Tryz.slices_Contains_string W.heap.size 0 (Lib.countB ⟨v.toArray⟩ ⟨#[32]⟩+1) (Lib.countB ⟨v.toArray⟩ ⟨#[32]⟩+1) (Lib.splitB ⟨#[32]⟩ 0 (Lib.countB ⟨v.toArray⟩ ⟨#[32]⟩) ⟨v.toArray⟩) ⟨nm.toArray⟩ (W.alloc (ak ((Lib.splitB ⟨#[32]⟩ 0 (Lib.countB ⟨v.toArray⟩ ⟨#[32]⟩) ⟨v.toArray⟩).map Value.string).toArray 9)) (by rw[a];exact bJ _) aa (λj g=>by
  have d:=fE W (ak ((Lib.splitB ⟨#[32]⟩ 0 (Lib.countB ⟨v.toArray⟩ ⟨#[32]⟩) ⟨v.toArray⟩).map Value.string).toArray 9);refine aQ d (0+j) _ ?_;grind)
 rw[jH (by rw[a];exact bJ _)] at h;exact h
section
variable {B:Nat}{b:dG}{W:ai}{DB d:Nat}{p:Int->Option Nat}{M:Dm}{nx c:Nat}
theorem Nw (h:dm B b W DB d p M nx c)(n:Int)(e:ig)(he:M n=some e)(D:∀a∈e.ats,a.2.length<=1000000)(k:UInt8)(nm:Bs):
  aL 232 #[.int .u8 k.toNat,bV nm,aK DB,ag n] W λr w'=>r=ay (.bool (Dx e (k,nm)))/\aD W w':=by
 have A:=h.i64 he;have m:∀x,UB M n x=pQ e.ats x:=λx=>by unfold UB;rw[he]
 have g:∀x,((pQ e.ats x).getD []).length<=1000000:=λx=>by
  rcases xR e.ats x 0 with⟨-,j⟩|⟨i,y, -,j,o⟩
  .rw[j];exact bA _
  .rw[o];exact D y (ic j)
 have J:((k.toNat:Int)==35)=(k==35):=Be k 35;have j:((k.toNat:Int)==46)=(k==46):=Be k 46;have o:((k.toNat:Int)==91)=(k==91):=Be k 91;unfold Dx;simp only;by_cases q:k=35
 .have E:(k==35)=true:=by rw[q];rfl
  rw[E] at J;rw[aR q];have l:aL 169 #[aK DB,ag n,au ⟨#[105,100]⟩] W _:=nL h n A [105,100];rw[m] at l;obtain⟨v,w⟩:∃v,(pQ e.ats [105,100]).getD []=v:=⟨_,rfl⟩;rw[w] at l⊢;have F:((⟨v.toArray⟩:aO).toList==(⟨nm.toArray⟩:aO).toList)=(v==nm):=by rw[gN,gN]
  clear q j o g w;go_enter func232,ntmps232;go_wp2_with(go_at_call 169;refine l.mono ?_;rintro r z ⟨rfl,f⟩);go_ret;exact⟨rfl,f⟩
 have E:(k==35)=false:=by rw[dW];exact q
 rw[E] at J;rw[aG q];by_cases s:k=46
 .have H:(k==46)=true:=by rw[s];rfl
  rw[H] at j;rw[aR s];have l:aL 169 #[aK DB,ag n,au ⟨#[99,108,97,115,115]⟩] W _:=nL h n A [99,108,97,115,115];rw[m] at l;have t:=g [99,108,97,115,115];obtain⟨v,w⟩:∃v,(pQ e.ats [99,108,97,115,115]).getD []=v:=⟨_,rfl⟩;rw[w] at l t⊢;have N:=λV=>Ci ⟨v.toArray⟩ (by rw[gY];omega) V;have O:=λV=>Zw v nm t V;clear q s o g w t;go_enter func232,ntmps232;go_wp2_with(first|(go_at_call 290;refine(O _).mono ?_;rintro r Q ⟨rfl,o⟩;rw[o];clear o)|(go_at_call 291;refine(N _).mono ?_;rintro r R ⟨rfl,j⟩;rw[j];clear j)|(go_at_call 169;refine l.mono ?_;rintro r z ⟨rfl,f⟩));go_ret;exact⟨rfl,f.alloc f.size _⟩
 have H:(k==46)=false:=by rw[dW];exact s
 rw[H] at j;rw[aG s];by_cases u:k=91
 .have I:(k==91)=true:=by rw[u];rfl
  rw[I] at o;rw[aR u];have l:=nL h n A nm;rw[m] at l;clear q s u g;go_enter func232,ntmps232;go_wp2_with(go_at_call 169;refine l.mono ?_;rintro r z ⟨rfl,f⟩);go_ret;exact⟨rfl,f⟩
 have I:(k==91)=false:=by rw[dW];exact u
 rw[I] at o;rw[aG u];have C:=wY nm W;have P:aL 104 #[aK DB,ag n] W λr w'=>r=ay (bV e.name)/\w'=W:=by
  have K:=tX h n A;rw[he] at K;exact K
 clear q s u g m;cases L:Du nm with
 |true=>
  rw[L] at C;go_enter func232,ntmps232;go_wp2_with(go_at_call 229;refine C.mono ?_;rintro r z ⟨rfl,h⟩;rw[h];clear h);go_ret;exact⟨rfl,aW _ _⟩
 |false=>
  rw[L] at C;have F:((⟨e.name.toArray⟩:aO).toList==(⟨nm.toArray⟩:aO).toList)=(e.name==nm):=by rw[gN,gN]
  go_enter func232,ntmps232;go_wp2_with(first|(go_at_call 229;refine C.mono ?_;rintro r z ⟨rfl,h⟩;rw[h];clear h)|(go_at_call 104;refine P.mono ?_;rintro r z ⟨rfl,h⟩;rw[h];clear h));go_ret;exact⟨aI,aW _ _⟩
theorem QV (h:dm B b W DB d p M nx c)(n:Int)(hn:eH n)(e:ig)(he:M n=some e)(hne:e.name≠[])(V:∀a∈e.ats,a.2.length<=1000000)(s:Bs)(hs:s.length<=1000000):
  CallsIn Fence.wide 9 prog 166 #[bV s,aK DB,ag n] W λr w'=>r=ay (.bool ((vH s).all (Dx e)))/\aD W w':=by
 obtain⟨z,E,F,H,I,b0⟩:=Ee W (ak #[aK DB] 74) (ak #[ag n] 3) (ak #[.bool false] 4) (ak #[bV s] 9);obtain⟨-, -, -, -,b3⟩:=jL W (ak #[aK DB] 74) (ak #[ag n] 3) (ak #[.bool false] 4);have NA:aL 104 #[aK DB,ag n] (((W.alloc (ak #[aK DB] 74)).alloc (ak #[ag n] 3)).alloc (ak #[.bool false] 4)) λr w'=>r=ay (bV e.name)/\w'=(((W.alloc (ak #[aK DB] 74)).alloc (ak #[ag n] 3)).alloc (ak #[.bool false] 4)):=by
  have h4:=tX (h.below b3) n hn;rw[he] at h4;exact h4
 have a7:e.name.isEmpty=false:=by
  cases hq:e.name with
  |nil=>exact absurd hq hne
  |cons _ _=>rfl
 refine callsIn_of_wp_marks func166 rfl trivial ?_ rfl;simp only[ntmps166,jw,eZ,iT,Nat.reduceAdd,Nat.reduceSub,jV,jU,jX,jW,gK,gH]
 gi_wp2_with (first|(refine⟨trivial,?_⟩;gi_at_call 104;refine(dM.2 NA).mono ?_;rintro r w1 ⟨rfl,q⟩;rw[q];clear q)|(refine⟨trivial,?_⟩;gi_at_call 161;refine(dM.2 (xe s _)).mono ?_;rintro r w1 ⟨rfl,q⟩;rw[q];clear q))
 obtain⟨U,hU⟩:∃U,((((W.alloc (ak #[aK DB] 74)).alloc (ak #[ag n] 3)).alloc (ak #[.bool false] 4)).alloc (ak #[bV s] 9))=U:=⟨_,rfl⟩;rw[hU] at b0 z E F H I⊢;clear hU NA b3;refine wpIn_rangeFunc_ownF rfl aa (gf:=226) (lb:=#[.pointer (some ⟨W.heap.size+1+1+1,0,none⟩)]) rfl trivial (enters_of func226 aA rfl)
  (encs:=ptV) (Kp:=wm (W.heap.size+1+1+1)) (S:=λxs=>zC xs=pts 0 s) (Sp:=λp=>zC p<+:pts 0 s) (N:=(pts 0 s).length) (w0:=U)
  (Cw s hs _ _ U H) wm.trans (λX l o o' hl q h2 h3=>wm.put (w:=U) aa X l o o' hl q h2 h3) (aW _ _) (λ_=>rfl)
  (λpre X=>X.heap[W.heap.size]? =some (ak #[aK DB] 74)/\X.heap[W.heap.size+1]? =some (ak #[ag n] 3)/\X.heap[W.heap.size+1+1]? =some (ak #[.bool false] 4)/\aD W X/\(zC pre).all (Dx e)=true/\U.heap.size<=X.heap.size)
  (λc pre X=>c=.ret/\(zC pre).all (Dx e)=false/\X.heap[W.heap.size+1+1]? =some (ak #[.bool false] 4)/\aD W X)
  (λpre A C Y hs m t=>⟨kH hs.1 aa m t,kH hs.2.1 aa m t,kH hs.2.2.1 aa m t,rX hs.2.2.2.1 aa m t,hs.2.2.2.2.1,bO hs.2.2.2.2.2 m.size⟩)
  (λc pre A C Y hs m t=>⟨hs.1,hs.2.1,kH hs.2.2.1 aa m t,rX hs.2.2.2 aa m t⟩)
  ⟨z,E,F,b0,rfl,bJ _⟩
  (λx=>{tmps:=#[bV s,aK DB,ag n,undef,aK W.heap.size,.pointer (some ⟨W.heap.size+1,0,none⟩),.pointer (some ⟨W.heap.size+1+1,0,none⟩),.int .u8 x.1.1.toNat,bV x.1.2,aK DB,ag n,bV e.name,.bool false,bV s,.func (.func 226) #[] #[.pointer (some ⟨W.heap.size+1+1+1,0,none⟩)],.int .u8 x.1.1.toNat,bV x.1.2,undef,undef,undef,undef,undef,undef],defers:=[]})
  ?assign ?body ?done ?stop
 case assign=>
  intro l x X K y
  gi_wp2
  exact y
 case body=>
  rintro l pre x X ⟨hP,Z,g,i,j,hu⟩ a6;obtain⟨⟨k,Q⟩,a4⟩:=x;have c1:=dK hP;have c2:=dK Z;have J:zC (pre++[⟨(k,Q),a4⟩])=zC pre++[(k,Q)]:=aI;have R:=Nw (h.below i) n e he V k Q;cases T:Dx e (k,Q) with
  |true=>
   rw[T] at R
   gi_wp2_with (refine⟨trivial,?_⟩;gi_at_call 232;refine(CallsIn.inRound l (dM.2 R)).mono ?_;rintro r w2 ⟨rfl,f⟩)
   exact⟨xU f,f.block _ aa,gZ f hP,gZ f Z,gZ f g,i.trans (f.mono i.size),by rw[J,List.all_append,j];simp[T],bO hu f.size⟩
  |false=>
   rw[T] at R
   gi_wp2_with (refine⟨trivial,?_⟩;gi_at_call 232;refine(CallsIn.inRound l (dM.2 R)).mono ?_;rintro r w2 ⟨rfl,f⟩;have c3:=dK (gZ f g);have f3:=jf (gZ f g))
   exact⟨(xU f).trans (gT _ _ _),rfl,by rw[J,List.all_append];simp[T],jM (gZ f g) _,(i.trans (f.mono i.size)).setCell fZ _⟩
 case done=>
  rintro D xs X hD hS ⟨hP,Z,g,i,j, -⟩ y;rw[hS] at j;have c3:=dK g;have f3:=jf g
  gi_wp2
  have L:=(gT X ⟨W.heap.size+1+1,0,none⟩ (.bool true)).same D _ y rfl;refine⟨aI,.inl ⟨_,_,rfl,run_takeDeferred L,?_⟩⟩;have a5:=jM g (.bool true);have u:=(nZ (w:=X.setCell ⟨W.heap.size+1+1,0,none⟩ (.bool true)) (o:=.deferred none) (show W.heap.size+1+1≠D by omega)).trans a5;have oc:=dK u;refine⟨.bool true,?_,by rw[show vH s=pts 0 s from rfl,j],(i.setCell (p:=⟨W.heap.size+1+1,0,none⟩) fZ _).trans (belowK_b (w:=W) az _ D _ _ aa L rfl rfl)⟩;simp[results,results166,go_sem,oc]
 case stop=>
  rintro D c pre X hD O ⟨rfl,P,g,i⟩ y;have hv:(vH s).all (Dx e)=false:=by
   obtain⟨rest,v⟩:=O;rw[show vH s=pts 0 s from rfl,<- v,List.all_append,P];rfl
  gi_wp2
  refine⟨aI,.inl ⟨_,_,rfl,run_takeDeferred y,?_⟩⟩;have u:=(nZ (w:=X) (o:=.deferred none) (show W.heap.size+1+1≠D by omega)).trans g;have oc:=dK u;refine⟨.bool false,?_,by rw[hv],i.trans (belowK_b (w:=W) az X D _ _ aa y rfl rfl)⟩;simp[results,results166,go_sem,oc]
def EU (M:Dm):Prop:=∀n e,M n=some e->e.name≠[]/\∀a∈e.ats,a.2.length<=1000000
theorem Ny (h:dm B b W DB d p M nx c)(hF:EU M)(n:Int)(i:eH n)(s:Bs)(hs:s.length<=1000000):
  aL 166 #[bV s,aK DB,ag n] W λr w'=>r=ay (.bool (OG M s n))/\aD W w':=by
 unfold OG;cases f:M n with
 |none=>
  obtain⟨-, -,g,j,k⟩:=jL W (ak #[aK DB] 74) (ak #[ag n] 3) (ak #[.bool false] 4);have o:aL 104 #[aK DB,ag n] (((W.alloc (ak #[aK DB] 74)).alloc (ak #[ag n] 3)).alloc (ak #[.bool false] 4)) λr w'=>r=ay (au ⟨#[]⟩)/\w'=(((W.alloc (ak #[aK DB] 74)).alloc (ak #[ag n] 3)).alloc (ak #[.bool false] 4)):=by
   have l:=tX (h.below k) n i;rw[f] at l;exact l
  refine(dM (n:=9)).1 ?_;refine callsIn_of_wp_marks func166 rfl trivial ?_ rfl;simp only[ntmps166,jw,eZ,iT,Nat.reduceAdd,Nat.reduceSub,jV,jU,jX,jW,gK,gH]
  gi_wp2_with (refine⟨trivial,?_⟩;gi_at_call 104;refine(dM.2 o).mono ?_;rintro r u ⟨rfl,a⟩;rw[a];clear a)
  have q:=dK g;refine⟨.bool false,?_,rfl,k⟩;simp[results,results166,go_sem,q]
 |some e=>
  obtain⟨a,t⟩:=hF n e f;refine(dM.1 (QV h n i e f a t s hs)).mono λr w' m=>⟨?_,m.2⟩;rw[m.1];simp[a]
end
end
open Go.RowKit
theorem Fv:∀(K l:List Int),K.Nodup->(∀x∈K,x∈l)->K.length<=l.length
 |[],_,_,_=>bA _
 |k::K,l,h,a=>by
  have b:=qN.1 h;have d:=a k aI;have f:=Fv K (l.erase k) b.2 (λx c=>(List.mem_erase_of_ne (λe=>b.1 (by rw[<- e];exact c))).2 (a x (by simp[c])));rw[List.length_erase_of_mem d] at f;grind
