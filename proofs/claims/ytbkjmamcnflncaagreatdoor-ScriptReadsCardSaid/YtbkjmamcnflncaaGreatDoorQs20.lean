import Derived.Test.YtbkjmamcnflncaaGreatDoorQs17
import Derived.Test.YtbkjmamcnflncaaGreatDoorQs14
import Derived.Test.YtbkjmamcnflncaaGreatDoorQs19
namespace Go.Proofs.YtbkjmamcnflncaaGreatDoor
open Go.Proofs.Tryz
set_option maxHeartbeats 8000000
section
open Go.RowKit Go.Shelf
set_option maxRecDepth 100000
attribute [local go_sem] Oper.semAt_some
def wtS (l:List Bs):Nat:=(l.map λt=>ny (uL t)).sum
theorem a2q (l:List Bs)(x:Bs):wtS (l++[x])=wtS l+ny (pts 0 x):=by
 unfold wtS;rw[iG,List.sum_append];simp[uL,pts]
theorem WH (x:UInt8×Bs):NS x<=100:=by
 unfold NS;grind
theorem GG:∀l:List (UInt8×Bs),ny l<=100*l.length
 |[]=>Nat.le_refl _
 |x::l=>by
  have b:=WH x;have a:=GG l;unfold ny at a⊢;grind
theorem a2r:∀l:List Bs,(∀x∈l,x.length<=1000000)->wtS l<=100000100*l.length
 |[],_=>Nat.le_refl _
 |x::l,h=>by
  have c:=GG (pts 0 x);have d:=Ex x.length 0 x ay;have e:=h x aG;have a:=a2r l (λy b=>h y (by simp[b]));unfold wtS at a⊢;rw[nI,List.sum_cons,eP,show uL x=pts 0 x from rfl];omega
theorem YQ (s:Bs)(hs:s.length<=1000000)(W:ah):CallsIn Fence.wide 12 prog 233 #[.agg #[bV s]] W λe w'=>e=ax (ag (wtM s:Nat))/\aD W w':=by
 obtain⟨b6,J,L,M,b0⟩:=jB W (ai #[bV s] 105) (ai #[ag 0] 3) (ai #[bV s] 9);have c6:prog.follows .mixedOrders=true:=az;refine callsIn_of_wp_marks func233 rfl trivial ?_ rfl;simp only[ntmps233,ji,eP,iO,Nat.reduceAdd,Nat.reduceSub,jM,jL,jO,jN,gF,fV]
 gi_wp2_with (refine⟨trivial,?_⟩;gi_at_call 98;refine(callsIn_wide.2 (De s _)).mono ?_;rintro e w1 ⟨rfl,H⟩;rw[H];clear H)
 obtain⟨U,hU⟩:∃U,(((W.alloc (ai #[bV s] 105)).alloc (ai #[ag 0] 3)).alloc (ai #[bV s] 9))=U:=⟨_,rfl⟩;rw[hU] at b0 b6 J L M⊢;clear hU;refine wpIn_rangeFunc_ownH rfl aa (gf:=159) (lb:=#[.pointer (some ⟨W.heap.size+1+1,0,none⟩)]) rfl trivial (enters_of func159 az rfl)
  (encs:=λx:StB=>#[bV x.1]) (Kp:=vo (W.heap.size+1+1)) (S:=λO=>Kn O=jv s) (Sp:=λp=>Kn p<+:jv s) (N:=(jv s).length) (w0:=U)
  (Ko s hs _ _ U L) vo.trans (λX l o o' hl H h2 h3=>vo.put (w:=U) aa X l o o' hl H h2 h3) (aQ _ _) (λ_=>rfl)
  (λpre X=>X.heap[W.heap.size+1]? =some (ai #[ag (wtS (Kn pre):Nat)] 3)/\aD W X/\U.heap.size<=X.heap.size)
  (λ_ _ _=>False)
  (λpre A C P hs d m=>⟨jX hs.1 aa d m,qW hs.2.1 aa d m,bu hs.2.2 d.size⟩)
  (λ_ _ _ _ _ h _ _=>h)
  ⟨J,b0,Nat.le_refl _⟩
  (λx Q _=>Q={tmps:=#[.agg #[bV s],aI W.heap.size,ag 0,.pointer (some ⟨W.heap.size+1,0,none⟩),bV x.1,undef,undef,aI W.heap.size,bV s,.func (.func 159) #[] #[.pointer (some ⟨W.heap.size+1+1,0,none⟩)],bV x.1,undef,undef,undef,undef,undef,undef,undef,undef,undef,undef],defers:=[]})
  (λ_ _ _ _ _ _ h _ _=>h)
  ?assign ?body ?done ?stop
 case assign=>
  intro l pre x X K hI I
  gi_wp2
  exact I _ _ (KeepsFrom.refl _ _) rfl hI rfl
 case body=>
  rintro l pre x Q X hl ⟨r₀,b⟩ ⟨R,hb,hu⟩ rfl T;obtain⟨st,Z⟩:=x
  gi_wp2_with (refine⟨trivial,?_⟩;gi_at_call 161;refine(CallsIn.inRound l (callsIn_wide.2 (wz st _))).mono ?_;rintro e w2 ⟨rfl,h⟩;rw[h];clear h)
  have a4:=eO X (ai #[bV st] 9);have n:(X.alloc (ai #[bV st] 9)).heap[W.heap.size+1]? =some (ai #[ag (wtS (Kn pre):Nat)] 3):=(Below.heap_alloc _ _ _ aa).trans R;have q:(X.alloc (ai #[bV st] 9)).heap[l]? =some (.loop r₀):=(Below.heap_alloc _ _ _ (by have:=(dZ.1 b).1;omega)).trans b;have a5:aD W (X.alloc (ai #[bV st] 9)):=hb.alloc hb.size _;have a6:vo (W.heap.size+1+1) X (X.alloc (ai #[bV st] 9)):=Below.heap_alloc _ _ _ aa;have a7:KeepsFrom U.heap.size X (X.alloc (ai #[bV st] 9)):=(KeepsOthers.alloc _ _).from _;have b7:(X.alloc (ai #[bV st] 9)).heap.size=X.heap.size+1:=dK _ _;obtain⟨r,a8⟩:∃r,X.alloc (ai #[bV st] 9)=r:=⟨_,rfl⟩;rw[a8] at a4 n q a5 a6 a7 b7⊢;clear a8;have a9:=a2r (Kn pre) (λy hy=>by obtain⟨z, -,rfl⟩:=gu.1 hy;exact z.2);rw[dF] at a9;have c7:pre.length<=1000001:=by
   have:=oV (s.length+1) s;unfold jv at T;omega
  have b1:Hid (wtS (Kn pre++[st])=wtS (Kn pre)+ny (pts 0 st)):=a2q _ _;obtain⟨f,b2⟩:∃f,wtS (Kn pre)=f:=⟨_,rfl⟩;rw[b2] at n a9 b1;clear b2 R;refine wpIn_rangeFunc_ownN (l₀:=l) (r₀:=r₀) rfl q aa (gf:=226) (lb:=#[aI X.heap.size]) rfl trivial (enters_of func226 az rfl)
   (encs:=ptV) (Kp:=vo X.heap.size) (S:=λO=>yO O=pts 0 st) (Sp:=λp=>yO p<+:pts 0 st) (N:=(pts 0 st).length) (w0:=r)
   (SeqStopsK.inRound l (BH st Z _ _ r a4)) vo.trans (λY l o o' hl H h2 h3=>vo.put (w:=r) aa Y l o o' hl H h2 h3) (aQ _ _) (λ_=>rfl)
   (λa Y=>Y.heap[W.heap.size+1]? =some (ai #[ag (f+ny (yO a):Nat)] 3)/\aD W Y/\KeepsFrom U.heap.size X Y/\vo (W.heap.size+1+1) X Y/\r.heap.size<=Y.heap.size)
   (λ_ _ _=>False)
   (λa A C P hs d m=>⟨jX hs.1 aa d m,qW hs.2.1 aa d m,ownFrom_keepsFrom (β:=Unit) (w₀:=X) (B':=r.heap.size) aa () A C P hs.2.2.1 d m,hs.2.2.2.1.trans (d.block _ aa (λe=>by have:=(m _ e.symm).1;omega)),bu hs.2.2.2.2 d.size⟩)
   (λ_ _ _ _ _ h _ _=>h)
   ⟨n,a5,a7,a6,Nat.le_refl _⟩
   (λy Q _=>Q={tmps:=#[.agg #[bV s],aI W.heap.size,ag 0,.pointer (some ⟨W.heap.size+1,0,none⟩),bV st,.int .u8 y.1.1.toNat,bV y.1.2,aI W.heap.size,bV s,.func (.func 159) #[] #[.pointer (some ⟨W.heap.size+1+1,0,none⟩)],bV st,bV st,.func (.func 226) #[] #[aI X.heap.size],.int .u8 y.1.1.toNat,bV y.1.2,undef,undef,undef,undef,undef,undef],defers:=[]})
   (λ_ _ _ _ _ _ h _ _=>h)
   ?assign2 ?afs ?aft ?afu
  case assign2=>
   intro l2 a y Y K hI I
   gi_wp2
   exact I _ _ (KeepsFrom.refl _ _) rfl hI rfl
  case afs=>
   rintro l2 a y Q Y q-⟨t,u,v,B,b3⟩ rfl c8;obtain⟨⟨k,g⟩,E⟩:=y;have c1:=dB t;have f1:=iU t;have WO:=λV=>Mq k g V;have b4:=GG (yO a);have b8:=Ex st.length 0 st ay;have b9:=WH (k,g);rw[dF] at b4;have i:yO (a++[⟨(k,g),E⟩])=yO a++[(k,g)]:=aG;have HV:Hid (f+ny (yO (a++[⟨(k,g),E⟩]))=(f+ny (yO a))+NS (k,g)):=(by
    rw[i,XJ];simp[ny];omega:f+ny (yO (a++[⟨(k,g),E⟩]))=(f+ny (yO a))+NS (k,g))
   have c0:f+ny (yO a)<=1000000000000000:=aa;obtain⟨c,hc⟩:∃c,f+ny (yO a)=c:=⟨_,rfl⟩;obtain⟨j,b5⟩:∃j,NS (k,g)=j:=⟨_,rfl⟩;rw[hc] at c1 t HV c0;rw[b5] at WO b9 HV;clear hc b5 i b4 b8;have c9:IntKind.i64.wrap ((c:Int)+(j:Int))=((c+j:Nat):Int):=by
    rw[IntWalk.i64_in _ aa];omega
   have h4:=jC t (ag ((c:Int)+(j:Int)));have c2:=aA h4;have c3:=(u.setCell (p:=⟨W.heap.size+1,0,none⟩) fJ (ag ((c:Int)+(j:Int)))).drew;have F:=(gH Y ⟨W.heap.size+1,0,none⟩ (ag ((c:Int)+(j:Int)))).trans (KeepsOthers.drew _);have c4:vo X.heap.size Y (Y.setCell ⟨W.heap.size+1,0,none⟩ (ag ((c:Int)+(j:Int)))).drew:=bY Y ⟨W.heap.size+1,0,none⟩ _ X.heap.size fJ;have c5:vo (W.heap.size+1+1) Y (Y.setCell ⟨W.heap.size+1,0,none⟩ (ag ((c:Int)+(j:Int)))).drew:=bY Y ⟨W.heap.size+1,0,none⟩ _ (W.heap.size+1+1) fJ;clear h4
   gi_wp2
   gi_region_with_o ((refine⟨trivial,?_⟩;gi_at_call 292;refine(CallsIn.inRound l2 (CallsIn.inRound l (callsIn_wide.2 (WO _)))).mono ?_;rintro e w3 ⟨rfl,h⟩;rw[h];clear h))
   all_goals gi_wp2
   all_goals exact⟨F.from _,c4,by rw[HV.out,Int.natCast_add];exact c2.out,c3,v.trans (F.from _),B.trans c5,bu b3 F.size⟩
  case aft=>
   rintro O Y hS ⟨t,u,v,B,b3⟩;rw[hS] at t;have i:Kn (pre++[⟨st,Z⟩])=Kn pre++[st]:=aG
   gi_wp2
   exact⟨v,B,by rw[i,b1.out];exact t,u,aa⟩
  case afu=>
   rintro c a Y-h;exact h.elim
 case done=>
  rintro D O X hD hS ⟨R,hb, -⟩ I;rw[hS] at R;have c1:=dB R
  gi_wp2
  refine⟨aG,.inl ⟨_,_,rfl,run_takeDeferred I,?_⟩⟩;refine⟨ag (wtS (jv s):Nat),?_,rfl,hb.trans (belowK_b (w:=W) ay X D _ _ aa I rfl rfl)⟩;simp[results,results233,go_sem]
 case stop=>
  rintro D c pre X- - h -;exact h.elim
theorem Ug (s:Bs)(hs:s.length<=1000000)(W:ah):aJ 233 #[.agg #[bV s]] W λe w'=>e=ax (ag (wtM s:Nat))/\aD W w':=callsIn_wide.1 (YQ s hs W)
end
section
open Go.RowKit Go.Shelf
set_option maxRecDepth 100000
attribute [local go_sem] Oper.semAt_some
theorem YR (v nm:Bs)(f:v.length<=1000000)(W:ah):
  aJ 290 #[aj (some ⟨W.heap.size,0,none⟩) (Lib.countB ⟨v.toArray⟩ ⟨#[32]⟩+1) (Lib.countB ⟨v.toArray⟩ ⟨#[32]⟩+1),ak ⟨nm.toArray⟩] (W.alloc (ai ((Lib.splitB ⟨#[32]⟩ 0 (Lib.countB ⟨v.toArray⟩ ⟨#[32]⟩) ⟨v.toArray⟩).map Value.string).toArray 9)) λe w'=>e=ax (.bool (aek v nm))/\w'=W.alloc (ai ((Lib.splitB ⟨#[32]⟩ 0 (Lib.countB ⟨v.toArray⟩ ⟨#[32]⟩) ⟨v.toArray⟩).map Value.string).toArray 9):=by
 have c:1<=(⟨#[32]⟩:aM).size:=aC;have a:=Lib.splitB_all ⟨#[32]⟩ c 0 _ (⟨v.toArray⟩:aM) rfl;have b:=Lib.countB_le ⟨#[32]⟩ c (⟨v.toArray⟩:aM).size ⟨v.toArray⟩ ay;rw[gL] at b;have h:=Tryz.slices_Contains_string W.heap.size 0 (Lib.countB ⟨v.toArray⟩ ⟨#[32]⟩+1) (Lib.countB ⟨v.toArray⟩ ⟨#[32]⟩+1) (Lib.splitB ⟨#[32]⟩ 0 (Lib.countB ⟨v.toArray⟩ ⟨#[32]⟩) ⟨v.toArray⟩) ⟨nm.toArray⟩ (W.alloc (ai ((Lib.splitB ⟨#[32]⟩ 0 (Lib.countB ⟨v.toArray⟩ ⟨#[32]⟩) ⟨v.toArray⟩).map Value.string).toArray 9)) (by rw[a];exact Nat.le_refl _) aa (λj g=>by
  have d:=eO W (ai ((Lib.splitB ⟨#[32]⟩ 0 (Lib.countB ⟨v.toArray⟩ ⟨#[32]⟩) ⟨v.toArray⟩).map Value.string).toArray 9);refine aO d (0+j) _ ?_;grind)
 rw[jg (by rw[a];exact Nat.le_refl _)] at h;exact h
section
variable {B:Nat}{b:dm}{W:ah}{DB d:Nat}{p:Int->Option Nat}{M:Dm}{nx c:Nat}
theorem MH (h:bT B b W DB d p M nx c)(n:Int)(e:gP)(he:M n=some e)(D:∀a∈e.ats,a.2.length<=1000000)(k:UInt8)(nm:Bs):
  aJ 232 #[.int .u8 k.toNat,bV nm,aI DB,ag n] W λr w'=>r=ax (.bool (Cw e (k,nm)))/\aD W w':=by
 have A:=h.i64 he;have m:∀x,TV M n x=oM e.ats x:=λx=>by unfold TV;rw[he]
 have g:∀x,((oM e.ats x).getD []).length<=1000000:=λx=>by
  rcases xg e.ats x 0 with⟨-,j⟩|⟨i,y, -,j,o⟩
  .rw[j];exact bf _
  .rw[o];exact D y (gN j)
 have J:((k.toNat:Int)==35)=(k==35):=Ad k 35;have j:((k.toNat:Int)==46)=(k==46):=Ad k 46;have o:((k.toNat:Int)==91)=(k==91):=Ad k 91;unfold Cw;simp only;by_cases q:k=35
 .have E:(k==35)=true:=by rw[q];rfl
  rw[E] at J;rw[if_pos q];have l:aJ 169 #[aI DB,ag n,ak ⟨#[105,100]⟩] W _:=mZ h n A [105,100];rw[m] at l;obtain⟨v,w⟩:∃v,(oM e.ats [105,100]).getD []=v:=⟨_,rfl⟩;rw[w] at l⊢;have F:((⟨v.toArray⟩:aM).toList==(⟨nm.toArray⟩:aM).toList)=(v==nm):=by rw[gz,gz]
  clear q j o g w;go_enter func232,ntmps232;go_wp2_with(go_at_call 169;refine l.mono ?_;rintro r z ⟨rfl,f⟩);go_ret;exact⟨rfl,f⟩
 have E:(k==35)=false:=by rw[dL];exact q
 rw[E] at J;rw[if_neg q];by_cases s:k=46
 .have H:(k==46)=true:=by rw[s];rfl
  rw[H] at j;rw[if_pos s];have l:aJ 169 #[aI DB,ag n,ak ⟨#[99,108,97,115,115]⟩] W _:=mZ h n A [99,108,97,115,115];rw[m] at l;have t:=g [99,108,97,115,115];obtain⟨v,w⟩:∃v,(oM e.ats [99,108,97,115,115]).getD []=v:=⟨_,rfl⟩;rw[w] at l t⊢;have N:=λV=>Bn ⟨v.toArray⟩ (by rw[gL];omega) V;have O:=λV=>YR v nm t V;clear q s o g w t;go_enter func232,ntmps232;go_wp2_with(first|(go_at_call 290;refine(O _).mono ?_;rintro r Q ⟨rfl,o⟩;rw[o];clear o)|(go_at_call 291;refine(N _).mono ?_;rintro r R ⟨rfl,j⟩;rw[j];clear j)|(go_at_call 169;refine l.mono ?_;rintro r z ⟨rfl,f⟩));go_ret;exact⟨rfl,f.alloc f.size _⟩
 have H:(k==46)=false:=by rw[dL];exact s
 rw[H] at j;rw[if_neg s];by_cases u:k=91
 .have I:(k==91)=true:=by rw[u];rfl
  rw[I] at o;rw[if_pos u];have l:=mZ h n A nm;rw[m] at l;clear q s u g;go_enter func232,ntmps232;go_wp2_with(go_at_call 169;refine l.mono ?_;rintro r z ⟨rfl,f⟩);go_ret;exact⟨rfl,f⟩
 have I:(k==91)=false:=by rw[dL];exact u
 rw[I] at o;rw[if_neg u];have C:=wm nm W;have P:aJ 104 #[aI DB,ag n] W λr w'=>r=ax (bV e.name)/\w'=W:=by
  have K:=sj h n A;rw[he] at K;exact K
 clear q s u g m;cases L:Ct nm with
 |true=>
  rw[L] at C;go_enter func232,ntmps232;go_wp2_with(go_at_call 229;refine C.mono ?_;rintro r z ⟨rfl,h⟩;rw[h];clear h);go_ret;exact⟨rfl,aQ _ _⟩
 |false=>
  rw[L] at C;have F:((⟨e.name.toArray⟩:aM).toList==(⟨nm.toArray⟩:aM).toList)=(e.name==nm):=by rw[gz,gz]
  go_enter func232,ntmps232;go_wp2_with(first|(go_at_call 229;refine C.mono ?_;rintro r z ⟨rfl,h⟩;rw[h];clear h)|(go_at_call 104;refine P.mono ?_;rintro r z ⟨rfl,h⟩;rw[h];clear h));go_ret;exact⟨aG,aQ _ _⟩
theorem Qj (h:bT B b W DB d p M nx c)(n:Int)(hn:dV n)(e:gP)(he:M n=some e)(hne:e.name≠[])(V:∀a∈e.ats,a.2.length<=1000000)(s:Bs)(hs:s.length<=1000000):
  CallsIn Fence.wide 9 prog 166 #[bV s,aI DB,ag n] W λr w'=>r=ax (.bool ((uL s).all (Cw e)))/\aD W w':=by
 obtain⟨z,E,F,H,I,b0⟩:=Dh W (ai #[aI DB] 74) (ai #[ag n] 3) (ai #[.bool false] 4) (ai #[bV s] 9);obtain⟨-, -, -, -,b3⟩:=jB W (ai #[aI DB] 74) (ai #[ag n] 3) (ai #[.bool false] 4);have NA:aJ 104 #[aI DB,ag n] (((W.alloc (ai #[aI DB] 74)).alloc (ai #[ag n] 3)).alloc (ai #[.bool false] 4)) λr w'=>r=ax (bV e.name)/\w'=(((W.alloc (ai #[aI DB] 74)).alloc (ai #[ag n] 3)).alloc (ai #[.bool false] 4)):=by
  have h4:=sj (h.below b3) n hn;rw[he] at h4;exact h4
 have a7:e.name.isEmpty=false:=by
  cases hq:e.name with
  |nil=>exact absurd hq hne
  |cons _ _=>rfl
 refine callsIn_of_wp_marks func166 rfl trivial ?_ rfl;simp only[ntmps166,ji,eP,iO,Nat.reduceAdd,Nat.reduceSub,jM,jL,jO,jN,gF,fV]
 gi_wp2_with (first|(refine⟨trivial,?_⟩;gi_at_call 104;refine(callsIn_wide.2 NA).mono ?_;rintro r w1 ⟨rfl,q⟩;rw[q];clear q)|(refine⟨trivial,?_⟩;gi_at_call 161;refine(callsIn_wide.2 (wz s _)).mono ?_;rintro r w1 ⟨rfl,q⟩;rw[q];clear q))
 obtain⟨U,hU⟩:∃U,((((W.alloc (ai #[aI DB] 74)).alloc (ai #[ag n] 3)).alloc (ai #[.bool false] 4)).alloc (ai #[bV s] 9))=U:=⟨_,rfl⟩;rw[hU] at b0 z E F H I⊢;clear hU NA b3;refine wpIn_rangeFunc_ownF rfl aa (gf:=226) (lb:=#[.pointer (some ⟨W.heap.size+1+1+1,0,none⟩)]) rfl trivial (enters_of func226 az rfl)
  (encs:=ptV) (Kp:=vo (W.heap.size+1+1+1)) (S:=λxs=>yO xs=pts 0 s) (Sp:=λp=>yO p<+:pts 0 s) (N:=(pts 0 s).length) (w0:=U)
  (BH s hs _ _ U H) vo.trans (λX l o o' hl q h2 h3=>vo.put (w:=U) aa X l o o' hl q h2 h3) (aQ _ _) (λ_=>rfl)
  (λpre X=>X.heap[W.heap.size]? =some (ai #[aI DB] 74)/\X.heap[W.heap.size+1]? =some (ai #[ag n] 3)/\X.heap[W.heap.size+1+1]? =some (ai #[.bool false] 4)/\aD W X/\(yO pre).all (Cw e)=true/\U.heap.size<=X.heap.size)
  (λc pre X=>c=.ret/\(yO pre).all (Cw e)=false/\X.heap[W.heap.size+1+1]? =some (ai #[.bool false] 4)/\aD W X)
  (λpre A C Y hs m t=>⟨jX hs.1 aa m t,jX hs.2.1 aa m t,jX hs.2.2.1 aa m t,qW hs.2.2.2.1 aa m t,hs.2.2.2.2.1,bu hs.2.2.2.2.2 m.size⟩)
  (λc pre A C Y hs m t=>⟨hs.1,hs.2.1,jX hs.2.2.1 aa m t,qW hs.2.2.2 aa m t⟩)
  ⟨z,E,F,b0,rfl,Nat.le_refl _⟩
  (λx=>{tmps:=#[bV s,aI DB,ag n,undef,aI W.heap.size,.pointer (some ⟨W.heap.size+1,0,none⟩),.pointer (some ⟨W.heap.size+1+1,0,none⟩),.int .u8 x.1.1.toNat,bV x.1.2,aI DB,ag n,bV e.name,.bool false,bV s,.func (.func 226) #[] #[.pointer (some ⟨W.heap.size+1+1+1,0,none⟩)],.int .u8 x.1.1.toNat,bV x.1.2,undef,undef,undef,undef,undef,undef],defers:=[]})
  ?assign ?body ?done ?stop
 case assign=>
  intro l x X K y
  gi_wp2
  exact y
 case body=>
  rintro l pre x X ⟨hP,Z,g,i,j,hu⟩ a6;obtain⟨⟨k,Q⟩,a4⟩:=x;have c1:=dB hP;have c2:=dB Z;have J:yO (pre++[⟨(k,Q),a4⟩])=yO pre++[(k,Q)]:=aG;have R:=MH (h.below i) n e he V k Q;cases T:Cw e (k,Q) with
  |true=>
   rw[T] at R
   gi_wp2_with (refine⟨trivial,?_⟩;gi_at_call 232;refine(CallsIn.inRound l (callsIn_wide.2 R)).mono ?_;rintro r w2 ⟨rfl,f⟩)
   exact⟨xm f,f.block _ aa,gM f hP,gM f Z,gM f g,i.trans (f.mono i.size),by rw[J,List.all_append,j];simp[T],bu hu f.size⟩
  |false=>
   rw[T] at R
   gi_wp2_with (refine⟨trivial,?_⟩;gi_at_call 232;refine(CallsIn.inRound l (callsIn_wide.2 R)).mono ?_;rintro r w2 ⟨rfl,f⟩;have c3:=dB (gM f g);have f3:=iU (gM f g))
   exact⟨(xm f).trans (gH _ _ _),rfl,by rw[J,List.all_append];simp[T],jC (gM f g) _,(i.trans (f.mono i.size)).setCell fJ _⟩
 case done=>
  rintro D xs X hD hS ⟨hP,Z,g,i,j, -⟩ y;rw[hS] at j;have c3:=dB g;have f3:=iU g
  gi_wp2
  have L:=(gH X ⟨W.heap.size+1+1,0,none⟩ (.bool true)).same D _ y rfl;refine⟨aG,.inl ⟨_,_,rfl,run_takeDeferred L,?_⟩⟩;have a5:=jC g (.bool true);have u:=(nH (w:=X.setCell ⟨W.heap.size+1+1,0,none⟩ (.bool true)) (o:=.deferred none) (show W.heap.size+1+1≠D by omega)).trans a5;have oc:=dB u;refine⟨.bool true,?_,by rw[show uL s=pts 0 s from rfl,j],(i.setCell (p:=⟨W.heap.size+1+1,0,none⟩) fJ _).trans (belowK_b (w:=W) ay _ D _ _ aa L rfl rfl)⟩;simp[results,results166,go_sem,oc]
 case stop=>
  rintro D c pre X hD O ⟨rfl,P,g,i⟩ y;have hv:(uL s).all (Cw e)=false:=by
   obtain⟨rest,v⟩:=O;rw[show uL s=pts 0 s from rfl,<- v,List.all_append,P];rfl
  gi_wp2
  refine⟨aG,.inl ⟨_,_,rfl,run_takeDeferred y,?_⟩⟩;have u:=(nH (w:=X) (o:=.deferred none) (show W.heap.size+1+1≠D by omega)).trans g;have oc:=dB u;refine⟨.bool false,?_,by rw[hv],i.trans (belowK_b (w:=W) ay X D _ _ aa y rfl rfl)⟩;simp[results,results166,go_sem,oc]
def E8 (M:Dm):Prop:=∀n e,M n=some e->e.name≠[]/\∀a∈e.ats,a.2.length<=1000000
theorem MI (h:bT B b W DB d p M nx c)(hF:E8 M)(n:Int)(i:dV n)(s:Bs)(hs:s.length<=1000000):
  aJ 166 #[bV s,aI DB,ag n] W λr w'=>r=ax (.bool (NV M s n))/\aD W w':=by
 unfold NV;cases f:M n with
 |none=>
  obtain⟨-, -,g,j,k⟩:=jB W (ai #[aI DB] 74) (ai #[ag n] 3) (ai #[.bool false] 4);have o:aJ 104 #[aI DB,ag n] (((W.alloc (ai #[aI DB] 74)).alloc (ai #[ag n] 3)).alloc (ai #[.bool false] 4)) λr w'=>r=ax (ak ⟨#[]⟩)/\w'=(((W.alloc (ai #[aI DB] 74)).alloc (ai #[ag n] 3)).alloc (ai #[.bool false] 4)):=by
   have l:=sj (h.below k) n i;rw[f] at l;exact l
  refine(callsIn_wide (n:=9)).1 ?_;refine callsIn_of_wp_marks func166 rfl trivial ?_ rfl;simp only[ntmps166,ji,eP,iO,Nat.reduceAdd,Nat.reduceSub,jM,jL,jO,jN,gF,fV]
  gi_wp2_with (refine⟨trivial,?_⟩;gi_at_call 104;refine(callsIn_wide.2 o).mono ?_;rintro r u ⟨rfl,a⟩;rw[a];clear a)
  have q:=dB g;refine⟨.bool false,?_,rfl,k⟩;simp[results,results166,go_sem,q]
 |some e=>
  obtain⟨a,t⟩:=hF n e f;refine(callsIn_wide.1 (Qj h n i e f a t s hs)).mono λr w' m=>⟨?_,m.2⟩;rw[m.1];simp[a]
end
end
open Go.RowKit
theorem Ey:∀(K l:List Int),K.Nodup->(∀x∈K,x∈l)->K.length<=l.length
 |[],_,_,_=>bf _
 |k::K,l,h,a=>by
  have b:=qi.1 h;have d:=a k aG;have f:=Ey K (l.erase k) b.2 (λx c=>(List.mem_erase_of_ne (λe=>b.1 (by rw[<- e];exact c))).2 (a x (by simp[c])));rw[List.length_erase_of_mem d] at f;grind
