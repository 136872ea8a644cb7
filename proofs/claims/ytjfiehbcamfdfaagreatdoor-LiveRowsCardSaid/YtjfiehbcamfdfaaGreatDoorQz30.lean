/- Parts of the proof. -/
import Derived.Test.YtjfiehbcamfdfaaGreatDoorQz29
namespace Go.Proofs.YtjfiehbcamfdfaaGreatDoor
open Go.Proofs.Tryz
set_option maxHeartbeats 8000000
section
open Go.RowKit Go.Maps
set_option maxRecDepth 20000
def a8J (M:Dm):Prop:=∀i e,M i=some e->e.ats.length<=1000000/\e.kids.length<=1000000/\∀a∈e.ats,a.1.length<=maxLen/\a.2.length<=maxLen
theorem NY {w:ag}{B:Nat}{v:ah}{l:List (Bs×Bs)}(h:w.ownsRow B 65 2 v l.length (aL l))(hl:∀a∈l,a.1.length<=maxLen/\a.2.length<=maxLen):jW w v l:=by
 obtain⟨o,cap,hv,hc,hm,hn,hg⟩:=bS h;refine⟨o,cap,hv,hc,hm,hn,fun i x hx=>?_⟩;obtain⟨h0,h1⟩:=tY l i x hx;obtain⟨g,hg1,c0⟩:=bO h _ _ h0;obtain⟨g',hg2,c1⟩:=bO h _ _ h1;rw[hg1] at hg2;cases hg2;exact⟨g,0,hg g hg1,by simpa using c0,by simpa using c1,hl x (List.mem_of_getElem? hx)⟩
theorem TE {w0:ag}{N nx:Nat}{M:Dm}(hN:w0.heap[N+1]? =some (.cells #[.map (some N),.int .i64 nx] 85))(hm:eZ prog 3 w0 N (fun _=>none) 0 0)(hM:∀i,M i=none)(hf:nx<=1000000)(hz:N+1<w0.heap.size):
  aO N (fun x=>if x=N then some .map else if x=N+1 then some .doc else none) w0 (N+1) N (fun _=>none) M nx 0 where
 doc:=hN
 jr:=by rw[if_neg (by omega),if_pos rfl]
 map:=by
  obtain⟨D,h1,h2⟩:=hm;exact⟨D,h1.mono (Nat.zero_le _),h2⟩
 jg:=by rw[if_pos rfl]
 els:=fun i e he=>by rw[hM i] at he;cases he
 non:=fun i _=>rfl
 low:=fun b t ht=>by
  split at ht
  ·omega
  ·split at ht
   ·omega
   ·cases ht
 dom:=fun i e he=>by rw[hM i] at he;cases he
 wf:=fun i e he=>by rw[hM i] at he;cases he
 few:=hf
 Pf:=fun b i hb=>by
  rcases hb with hb|hb|hb
  all_goals
   split at hb
   ·cases hb
   ·split at hb
    ·cases hb
    ·cases hb
theorem eZ.a0Z {P:Program}{K T E:TypeId}{w:ag}{B n c:Nat}{p:Int->Option Nat}(h:eZ P K w B p n c)(hK:P.underlying K=some (.int .i64))(hT:P.underlying T=some (.map K E))(hn:n<maxLen){k:Int}(hk:(Lit.int .i64 k).wf=true)(b:Nat)(hb:p k=none):
  ∃w',(Instr.mapUpdate T (.map (some B)) (.int .i64 k) (ay b)).run P w=.ok () w'/\eZ P K w' B (fun i=>if i=k then some b else p i) (n+1) (c+1)/\w.mapTurned w' B:=by
 obtain⟨D,h1,h2,h3⟩:=h;obtain⟨w',r0,r1,r2⟩:=h1.store (int_keyed hK) hT hn (keyOf_int_mk hK hk) (Ew b);refine⟨w',r0,⟨_,r1,?_,fun i=>?_⟩,r2⟩
 ·have hh:Maps.has D (.int .i64 k)=false:=by rw[(h3 k).1,hb];rfl
  rw[size_put (h1.tidy (int_keyed hK)),hh,h2];rfl
 ·by_cases hi:i=k
  ·subst hi;simp only[if_pos];exact⟨has_put_same h1.isMap (zf i) _,fun b' hb' zd=>by cases hb';exact atKey_put_same h1.isMap (zf i) _ _⟩
  ·simp only[if_neg hi];have hne:(Lit.int .i64 i)≠(Lit.int .i64 k):=fun e=>hi (by cases e;rfl);exact⟨(has_put_other hne _).trans (h3 i).1,fun b' hb' zd=>(atKey_put_other hne _ _).trans ((h3 i).2 b' hb' zd)⟩
def CS5 (N b:Nat)(nm:Bs)(va:ah)(pr:Int)(vk:ah)(w:ag):Prop:=w.cell? (ak (N+1) 0)=some (.map (some N))/\w.cell? (ak b 0)=some (.string ⟨nm.toArray⟩)/\w.cell? (ak b 1)=some va/\w.cell? (ak b 2)=some (.int .i64 pr)/\w.cell? (ak b 3)=some vk
theorem CS5.keep {N b:Nat}{nm:Bs}{va:ah}{pr:Int}{vk:ah}{w w':ag}(h:CS5 N b nm va pr vk w)(hb:Below w.heap.size w w'):CS5 N b nm va pr vk w':=by
 obtain⟨h1,h2,h3,h4,h5⟩:=h;exact⟨(hb.cell (az h1)).trans h1,(hb.cell (az h2)).trans h2,(hb.cell (az h3)).trans h3,(hb.cell (az h4)).trans h4,(hb.cell (az h5)).trans h5⟩
theorem KJ {P:Program}{k:TypeId}{R:ah->Option (DataW Unit×List MemPlace)}{w w':ag}{b r n:Nat}{D:DataW Unit}{left:Lit->Bool}{cnt:Nat}(h:w.ranges P k R b r n D left cnt)(hb:w'.heap[b]? =w.heap[b]?)(hr:w'.heap[r]? =w.heap[r]?):w'.ranges P k R b r n D left cnt:=by
 obtain⟨es,cl,si,se,c0,h1,h2,h3,h4,h5,h6⟩:=h;exact⟨es,cl,si,se,c0,hb.trans h1,h2,h3,h4,hr.trans h5,h6⟩
theorem adf (v:ah)(y:DataW Unit×List MemPlace)(h:pF v=some y):∃a:Option Addr,v=.pointer a:=by
 cases v<;>try cases h
 exact⟨_,rfl⟩
theorem TF {B:Nat}{tg:bf}{W:ag}{DB MB:Nat}{p:Int->Option Nat}{M:Dm}{nx c:Nat}(h:aO B tg W DB MB p M nx c)(hC:Cd M c)(hK:a8J M):
  ax 28 #[ay DB] W fun e w'=>Below W.heap.size W w'/\∃DB' MB' gF p',e=.returned (ay DB')/\aO W.heap.size gF w' DB' MB' p' M nx c:=by
 have hmm:=@run_makeMap prog;obtain⟨D,hown,hsz,hD⟩:=id h.map;have d0:=h.d0;have d1:=h.d1;have e1:((W.alloc (.map #[] 0)).alloc (.cells #[.map (some W.heap.size),.int .i64 nx] 85)).heap.size=W.heap.size+1+1:=by simp
 have b2:Below W.heap.size W ((W.alloc (.map #[] 0)).alloc (.cells #[.map (some W.heap.size),.int .i64 nx] 85)):=((Below.refl _ _).alloc ai _).alloc (by simp) _;have hown2:=(hown.alloc (.map #[] 0)).alloc (.cells #[.map (some W.heap.size),.int .i64 nx] 85);have d1a:=((di W (.map #[] 0)).cell (az d1)).trans d1;have d0a:=(b2.cell (az d0)).trans d0;go_enter func28,ntmps28;go_wp2_with(first
  |(at_range;refine wpList_range_own _ rfl _ 83 rfl 3 86 (int_keyed underlying3) underlying83 pF MB nx D rfl hown2 ?_;intro w0 hrg0 hg0 hs0)
  |go_in)
 go_frame
 rw[e1] at hrg0 hs0⊢
 go_loopw [4] (fun _ wr=>∃(left:Lit->Bool) (cnt:Nat) (gF:bf) (p':Int->Option Nat) (c':Nat),wr.ranges prog 3 pF MB (W.heap.size+1+1) nx D left cnt/\(∀z,left z=true->Maps.has D z=true)/\aO W.heap.size gF wr (W.heap.size+1) W.heap.size p' (nH M left) nx c'/\Cd (nH M left) c'/\gF (W.heap.size+1+1)=none/\eZ prog 3 wr W.heap.size p' c' c'/\Below W.heap.size W wr)
  (fun _ wr=>wr.rangeLeft MB (W.heap.size+1+1))
 case atStart=>
  have hn0:∀i,nH M (Maps.has D) i=none:=fun i=>by
   unfold nH;split
   ·rfl
   ·next hh=>
    cases hm:M i with
    |none=>rfl
    |some e=>
     obtain⟨b,va,vk,hp, -⟩:=h.els i e hm;rw[(hD i).1,hp] at hh;exact absurd rfl hh
  have k1:w0.heap[W.heap.size+1]? =some (.cells #[.map (some W.heap.size),.int .i64 nx] 85):=by
   rw[hg0.block _ (by rw[e1];omega) (by simp)];have:=cZ (W.alloc (.map #[] 0)) #[.map (some W.heap.size),.int .i64 nx] 85;simpa using this
  have pm:=((eZ.made W prog 3).kept (World.grownBy_alloc _ (.cells #[.map (some W.heap.size),.int .i64 nx] 85) none) (by simp)).kept hg0 (by simp);exact⟨_,_,_,_,0,hrg0,fun z hz=>hz,TE k1 pm hn0 h.few (by omega),⟨[],List.nodup_nil,rfl,fun x=>by simp[hn0 x]⟩,by rw[if_neg (by omega),if_neg (by omega)],pm,b2.grown hg0 (by rw[e1];omega) (fun j hj=>by cases hj)⟩
 case round=>
  obtain⟨left,cnt,gF,p',c',hrg,hlh,hd,hcd,htn,hpm,hb⟩:=hrel;go_wp2_with(first
   |(at_next;refine wpList_next_ranges _ rfl _ rfl 3 (int_keyed underlying3) pF (Value.int .i64) Value.pointer (fun key kl hkey=>by obtain⟨x,rfl,_⟩:=Maps.keyOf_int_inv underlying3 hkey;exact⟨x,rfl⟩) adf MB (W.heap.size+1+1) nx D left cnt rfl hrg ?_ ?_)
   |go_in)
  ·intro hc0 hl0;go_wp2_with fail;go_ret;have he:nH M left=M:=by
    funext i;unfold nH;rw[hl0,if_neg (by simp)]
   rw[he] at hd hcd;obtain rfl:=hcd.uniq hC;exact⟨hb,_,_,gF,p',rfl,hd⟩
  ·intro x ca kl y1 y2 w1 cnt1 hkey hlx hv hat hrg1 hlt hg1 hs1 hen;obtain⟨k,ek,ekl,hwk⟩:=Maps.keyOf_int_inv underlying3 hkey;cases ek;subst ekl;have hpk:(p x).isSome=true:=by rw[<- (hD x).1];exact hlh _ hlx
   obtain⟨b,hpb⟩:=Option.isSome_iff_exists.1 hpk;have hy1:=hat (.map []);rw[(hD x).2 b hpb] at hy1;subst hy1;have hca:=vo hv;cases hca;obtain⟨e,hMx⟩:∃e,M x=some e:=by
    cases hm:M x with
    |none=>rw[h.non x hm] at hpb;cases hpb
    |some e=>exact⟨e,rfl⟩
   obtain⟨b',va,vk,a8L,he⟩:=h.els x e hMx;rw[hpb] at a8L;cases a8L;obtain⟨hk1,hk2,hk3⟩:=hK x e hMx;have hdom:=h.dom x e hMx;have hwf:=h.wf x e hMx;have hb1:Below W.heap.size W w1:=hb.grown hg1 hb.size (fun j hj=>by cases hj;omega);have hr1:∀j,j<wr.heap.size->j≠W.heap.size+1+1->w1.heap[j]? =wr.heap[j]? :=fun j hj hn=>hg1.block j hj (fun e1=>hn (Option.some.inj e1));have hd1:aO W.heap.size gF w1 (W.heap.size+1) W.heap.size p' (nH M left) nx c':=hd.turn (fun g t ht=>hr1 g (hd.low g t ht).2 (fun e1=>by rw[e1,htn] at ht;cases ht)) (by omega);have a8M:eZ prog 3 w1 W.heap.size p' c' c':=hpm.same (hr1 _ hpm.lt (by omega));have hno:nH M left x=none:=by unfold nH;rw[hlx];rfl
   have hcc:c'+1<=c:=hcd.a4B hC (fun i f hf=>by unfold nH at hf;split at hf;cases hf;exact⟨f,hf⟩) hno ⟨e,hMx⟩;have hcn:=h.map.size_le;obtain⟨ova,kva,hva⟩:=aH he.ats;obtain⟨ovk,kvk,hvk⟩:=aH he.kids;subst hva hvk;have hS:CS5 W.heap.size b e.name (.slice ova e.ats.length kva) e.parent (.slice ovk e.kids.length kvk) w1.drew:=⟨hd1.d0,(hb1.cell (az he.c0)).trans he.c0,(hb1.cell (az he.c1)).trans he.c1,(hb1.cell (az he.c2)).trans he.c2,(hb1.cell (az he.c3)).trans he.c3⟩;have CA:=VS w1.drew _ e.ats (NY (aP he.ats (below_drewN hb1 1)) hk3) hk1;have CI:=fun V (hV:Below W.heap.size W V)=>WU V _ e.kids (aP he.kids hV) hk2;have HB1:=aj hb1;have HHE:=aj he;clear hb1 he hd hpm hr1 hat;go_upto_region 5 with fail;refine Kl (CS5 W.heap.size b e.name (.slice ova e.ats.length kva) e.parent (.slice ovk e.kids.length kvk)) 25 (by kernel_rfl) ?_;refine bH (v:=?v0) 0 rfl (by kernel_rfl) (by kernel_rfl) (by kernel_rfl) (by kernel_rfl) (fun _ _ _ h=>h) hS (.inl ⟨rfl,fun w hw=>?hy0⟩) ?hr0
   case hy0=>obtain⟨g1,g2,g3,g4,g5⟩:=hw;go_simp;try with_reducible rfl
   simp only[Act.put,List.setIfInBounds_toArray];refine bH (v:=?v1) 1 rfl (by kernel_rfl) (by kernel_rfl) (by kernel_rfl) (by kernel_rfl) (fun _ _ _ h=>h) hS (.inl ⟨rfl,fun w hw=>?hy1⟩) ?hr1
   case hy1=>obtain⟨g1,g2,g3,g4,g5⟩:=hw;go_simp;try with_reducible rfl
   simp only[Act.put];refine bH (v:=?v2) 2 rfl (by kernel_rfl) (by kernel_rfl) (by kernel_rfl) (by kernel_rfl) (fun _ _ _ h=>h) hS (.inl ⟨rfl,fun w hw=>?hy2⟩) ?hr2
   case hy2=>obtain⟨g1,g2,g3,g4,g5⟩:=hw;go_simp;try with_reducible rfl
   simp only[Act.put];refine bH (v:=?v3) 3 rfl (by kernel_rfl) (by kernel_rfl) (by kernel_rfl) (by kernel_rfl) (fun _ _ _ h=>h) hS (.inl ⟨rfl,fun w hw=>?hy3⟩) ?hr3
   case hy3=>obtain⟨g1,g2,g3,g4,g5⟩:=hw;go_simp;try with_reducible rfl
   simp only[Act.put];refine bH (v:=?v4) 4 rfl (by kernel_rfl) (by kernel_rfl) (by kernel_rfl) (by kernel_rfl) (fun _ _ _ h=>h) hS (.inl ⟨rfl,fun w hw=>?hy4⟩) ?hr4
   case hy4=>obtain⟨g1,g2,g3,g4,g5⟩:=hw;go_simp;try with_reducible rfl
   simp only[Act.put];refine bH (v:=?v5) 5 rfl (by kernel_rfl) (by kernel_rfl) (by kernel_rfl) (by kernel_rfl) (fun _ _ _ h=>h) hS (.inl ⟨rfl,fun w hw=>?hy5⟩) ?hr5
   case hy5=>obtain⟨g1,g2,g3,g4,g5⟩:=hw;go_simp;try with_reducible rfl
   simp only[Act.put];refine bH (v:=?v6) 6 rfl (by kernel_rfl) (by kernel_rfl) (by kernel_rfl) (by kernel_rfl) (fun _ _ _ h=>h) hS (.inl ⟨rfl,fun w hw=>?hy6⟩) ?hr6
   case hy6=>obtain⟨g1,g2,g3,g4,g5⟩:=hw;go_simp;try with_reducible rfl
   simp only[Act.put];refine bH (v:=?v7) 7 rfl (by kernel_rfl) (by kernel_rfl) (by kernel_rfl) (by kernel_rfl) (fun _ _ _ h=>h) hS (.inl ⟨rfl,fun w hw=>?hy7⟩) ?hr7
   case hy7=>obtain⟨g1,g2,g3,g4,g5⟩:=hw;go_simp;try with_reducible rfl
   simp only[Act.put];refine bH (v:=?v8) 8 rfl (by kernel_rfl) (by kernel_rfl) (by kernel_rfl) (by kernel_rfl) (fun _ _ _ h=>h) hS (.inl ⟨rfl,fun w hw=>?hy8⟩) ?hr8
   case hy8=>obtain⟨g1,g2,g3,g4,g5⟩:=hw;go_simp;try with_reducible rfl
   simp only[Act.put];refine bH (v:=?v9) 9 rfl (by kernel_rfl) (by kernel_rfl) (by kernel_rfl) (by kernel_rfl) (fun _ _ _ h=>h) hS (.inl ⟨rfl,fun w hw=>?hy9⟩) ?hr9
   case hy9=>obtain⟨g1,g2,g3,g4,g5⟩:=hw;go_simp;try with_reducible rfl
   simp only[Act.put];refine bH (v:=?v10) 10 rfl (by kernel_rfl) (by kernel_rfl) (by kernel_rfl) (by kernel_rfl) (fun _ _ _ h=>h) hS (.inl ⟨rfl,fun w hw=>?a4c⟩) ?acN
   case a4c=>obtain⟨g1,g2,g3,g4,g5⟩:=hw;go_simp;try with_reducible rfl
   simp only[Act.put];refine bH (v:=?v11) 11 rfl (by kernel_rfl) (by kernel_rfl) (by kernel_rfl) (by kernel_rfl) (fun _ _ _ h=>h) hS (.inl ⟨rfl,fun w hw=>?a4d⟩) ?acO
   case a4d=>obtain⟨g1,g2,g3,g4,g5⟩:=hw;go_simp;try with_reducible rfl
   simp only[Act.put];refine bH (v:=?v12) 12 rfl (by kernel_rfl) (by kernel_rfl) (by kernel_rfl) (by kernel_rfl) (fun _ _ _ h=>h) hS (.inl ⟨rfl,fun w hw=>?a4e⟩) ?acP
   case a4e=>obtain⟨g1,g2,g3,g4,g5⟩:=hw;go_simp;try with_reducible rfl
   simp only[Act.put];refine bH (v:=?v14) 14 rfl (by kernel_rfl) (by kernel_rfl) (by kernel_rfl) (by kernel_rfl) (fun _ _ _ h=>h) hS (.inl ⟨rfl,fun w hw=>?a4f⟩) ?acR
   case a4f=>obtain⟨g1,g2,g3,g4,g5⟩:=hw;go_simp;try with_reducible rfl
   simp only[Act.put];refine bH (v:=?v15) 15 rfl (by kernel_rfl) (by kernel_rfl) (by kernel_rfl) (by kernel_rfl) (fun _ _ _ h=>h) hS (.inl ⟨rfl,fun w hw=>?a4g⟩) ?acS
   case a4g=>obtain⟨g1,g2,g3,g4,g5⟩:=hw;go_simp;try with_reducible rfl
   simp only[Act.put];refine bH (v:=?v16) 16 rfl (by kernel_rfl) (by kernel_rfl) (by kernel_rfl) (by kernel_rfl) (fun _ _ _ h=>h) hS (.inl ⟨rfl,fun w hw=>?a4h⟩) ?acT
   case a4h=>obtain⟨g1,g2,g3,g4,g5⟩:=hw;go_simp;try with_reducible rfl
   simp only[Act.put];refine bH (v:=?v17) 17 rfl (by kernel_rfl) (by kernel_rfl) (by kernel_rfl) (by kernel_rfl) (fun _ _ _ h=>h) hS (.inl ⟨rfl,fun w hw=>?a4i⟩) ?acU
   case a4i=>obtain⟨g1,g2,g3,g4,g5⟩:=hw;go_simp;try with_reducible rfl
   simp only[Act.put];refine bH (v:=?v18) 18 rfl (by kernel_rfl) (by kernel_rfl) (by kernel_rfl) (by kernel_rfl) (fun _ _ _ h=>h) hS (.inl ⟨rfl,fun w hw=>?a4j⟩) ?acV
   case a4j=>obtain⟨g1,g2,g3,g4,g5⟩:=hw;go_simp;try with_reducible rfl
   simp only[Act.put];refine bH (v:=?v19) 19 rfl (by kernel_rfl) (by kernel_rfl) (by kernel_rfl) (by kernel_rfl) (fun _ _ _ h=>h) hS (.inl ⟨rfl,fun w hw=>?adh⟩) ?akZ
   case adh=>obtain⟨g1,g2,g3,g4,g5⟩:=hw;go_simp;try with_reducible rfl
   simp only[Act.put];refine bH (v:=?v20) 20 rfl (by kernel_rfl) (by kernel_rfl) (by kernel_rfl) (by kernel_rfl) (fun _ _ _ h=>h) hS (.inl ⟨rfl,fun w hw=>?a4k⟩) ?acW
   case a4k=>obtain⟨g1,g2,g3,g4,g5⟩:=hw;go_simp;try with_reducible rfl
   simp only[Act.put];refine bH (v:=?v21) 21 rfl (by kernel_rfl) (by kernel_rfl) (by kernel_rfl) (by kernel_rfl) (fun _ _ _ h=>h) hS (.inl ⟨rfl,fun w hw=>?a4l⟩) ?acX
   case a4l=>obtain⟨g1,g2,g3,g4,g5⟩:=hw;go_simp;try with_reducible rfl
   simp only[Act.put];refine nD 13 (by kernel_rfl) rfl (fun K hK=>?_);go_simp;go_wp2_with(go_at_call 42;refine CA.mono ?_;rintro e2 w2 ⟨o2,n2,k2,rfl,Ls,b2'⟩);have b12:Below w1.heap.size w1 w2:=⟨b2'.os,b2'.tape,b2'.output,b2'.size,b2'.block⟩;have hS2:=hS.keep b2';refine hK.out _ _ (fun _=>hS2) ?_;clear hK;have CI2:=CI w2 (aG HB1.out b12);refine nD 22 (by kernel_rfl) rfl (fun K hK=>?_);go_simp;go_wp2_with(go_at_call 56;refine CI2.mono ?_;rintro e3 w3 ⟨o3,k3,rfl,ED,rJ⟩);have hS3:=hS2.keep rJ;refine hK.out _ _ (fun _=>hS3) ?_;clear hK;have b13:=aG b12 rJ;refine nD 23 (by kernel_rfl) rfl (fun K hK=>?_);go_simp;refine hK.out _ _ (fun _=>hS3) ?_;clear hK;refine nD 24 (by kernel_rfl) rfl (fun K hK=>?_);go_simp;have hS4:=hS3.keep (di w3 (.cells #[.string ⟨e.name.toArray⟩,.slice o2 n2 k2,.int .i64 e.parent,.slice o3 e.kids.length k3] 90));refine hK.out _ _ (fun _=>hS4) ?_;clear hK;have b14:=aG b13 (di w3 (.cells #[.string ⟨e.name.toArray⟩,.slice o2 n2 k2,.int .i64 e.parent,.slice o3 e.kids.length k3] 90));have adj:=a8M.same (b14.block _ a8M.lt);obtain⟨w5,hrun,a8N,htu⟩:=eZ.a0Z (T:=83) adj underlying3 underlying83 (by have:=h.few;simp only[maxLen];omega) hwk w3.heap.size (hd1.non x hno);refine nD 25 (by kernel_rfl) rfl (fun K hK=>?_);go_simp;refine hK.out _ _ (fun h=>absurd rfl h) ?_;clear hK;refine XD (by kernel_rfl) ?_ _;have hrl:W.heap.size+1+1<w1.heap.size:=by
    obtain⟨es,cl,si,se,c0, -, -, -, -,h5, -⟩:=hrg1;exact aM h5
   have hMB:MB<W.heap.size:=hown.lt;have he:=HHE.out;have sz4:=b14.size;have e5:∀j,j≠W.heap.size->w5.heap[j]? =(w3.alloc (.cells #[.string ⟨e.name.toArray⟩,.slice o2 n2 k2,.int .i64 e.parent,.slice o3 e.kids.length k3] 90)).heap[j]? :=fun j hj=>by
    rcases Nat.lt_or_ge j (w3.alloc (.cells #[.string ⟨e.name.toArray⟩,.slice o2 n2 k2,.int .i64 e.parent,.slice o3 e.kids.length k3] 90)).heap.size with h1|h1
    ·exact htu.grown.block j h1 (fun e1=>hj (Option.some.inj e1))
    ·obtain⟨es,cl,es',cl',h2,h3⟩:=htu;rw[h3,Array.getElem?_eq_none h1,Array.getElem?_eq_none];simpa[ChangeMaps.setBlock] using h1
   have e15:∀j,j<w1.heap.size->j≠W.heap.size->w5.heap[j]? =w1.heap[j]? :=fun j hj hn=>(e5 j hn).trans (b14.block j hj);have RG:w5.ranges prog 3 pF MB (W.heap.size+1+1) nx D (fun z=>left z && !z.sameKey (.int .i64 x)) cnt1:=KJ hrg1 (e15 MB (by omega) (by omega)) (e15 _ hrl (by omega));have VW:=aP Ls (aG rJ (di w3 (.cells #[.string ⟨e.name.toArray⟩,.slice o2 n2 k2,.int .i64 e.parent,.slice o3 e.kids.length k3] 90)));have adk:=aP ED (di w3 (.cells #[.string ⟨e.name.toArray⟩,.slice o2 n2 k2,.int .i64 e.parent,.slice o3 e.kids.length k3] 90));have l2:∀g,(Value.slice o2 n2 k2).ownBlock=some g->w1.heap.size<=g/\g<w2.heap.size:=fun g hg=>Ls.lt g hg;have l3:∀g,(Value.slice o3 e.kids.length k3).ownBlock=some g->w2.heap.size<=g/\g<w3.heap.size:=fun g hg=>ED.lt g hg;have s12:=b12.size;have s23:=rJ.size;have sW:=HB1.out.size;have NE:Rx W.heap.size gF (w3.alloc (.cells #[.string ⟨e.name.toArray⟩,.slice o2 n2 k2,.int .i64 e.parent,.slice o3 e.kids.length k3] 90)) w3.heap.size e (.slice o2 n2 k2) (.slice o3 e.kids.length k3):=
    ⟨cZ w3 _ _,by omega,hd1.new (by omega),fH VW sW,fun g hg=>⟨hd1.new (l2 g hg).1,by have:=l2 g hg;omega⟩,fH adk (by omega),fun g hg=>⟨hd1.new (by have:=l3 g hg;omega),by have:=l3 g hg;omega,fun e1=>by have:=l2 g e1;have:=l3 g hg;omega⟩⟩
   have DW:=(hd1.below b14).a8I hdom.1 hdom.2 NE hwf (w':=w5) (a8N.mono (by omega)) e5 htu.grown.size;have hCd:=hcd.put hno e;rw[<- NV hMx] at DW hCd;have TG:jR gF x w3.heap.size (.slice o2 n2 k2) (.slice o3 e.kids.length k3) (W.heap.size+1+1)=none:=by
    unfold jR;rw[if_neg (by omega),if_neg (fun e1=>by have:=l2 _ e1;omega),if_neg (fun e1=>by have:=l3 _ e1;omega)];exact htn
   have FIN:Hid (_/\_/\_/\_/\_/\_):=And.intro RG (And.intro DW (And.intro hCd (And.intro TG (And.intro a8N ((HB1.out.trans (b14.mono sW)).grown htu.grown (by omega) (fun j hj=>by cases hj;exact Nat.le_refl _))))));have MEA:Hid (w5.rangeLeft MB (W.heap.size+1+1)<wr.rangeLeft MB (W.heap.size+1+1)):=(by rw[RG.left_eq,hrg.left_eq];exact hlt:w5.rangeLeft MB (W.heap.size+1+1)<wr.rangeLeft MB (W.heap.size+1+1));have HLH:∀z,(left z && !z.sameKey (.int .i64 x))=true->Maps.has D z=true:=fun z hz=>hlh z (by simp only[Bool.and_eq_true] at hz;exact hz.1);clear RG DW hCd TG NE e5 e15;go_wp2_with fail
   go_roundw
   case rel=>
    obtain⟨h1,h2,h3,h4,h5,h6⟩:=FIN.out;exact⟨_,cnt1,_,_,_,h1,HLH,h2,h3,h4,h5,h6⟩
   case measure=>exact MEA.out
end
section
open Go.RowKit
def TJ (tg:bf)(DB lW:Nat):bf:=fun x=>if x=DB then some .doc else if x=lW then none else tg x
theorem aO.home {B B':Nat}{tg:bf}{w Z:ag}{DB lW MB:Nat}{p:Int->Option Nat}{M:Dm}{nx c:Nat}(h:aO B tg w lW MB p M nx c)(hB:B'<=DB)(hDB:DB<B)(hz:∀b,B<=b->Z.heap[b]? =w.heap[b]?)(hd:Z.heap[DB]? =some (.cells #[.map (some MB),aa nx] 85))(hs:w.heap.size<=Z.heap.size):aO B' (TJ tg DB lW) Z DB MB p M nx c:=by
 have hk:∀g t,tg g=some t->t≠.doc->TJ tg DB lW g=some t/\Z.heap[g]? =w.heap[g]? :=fun g t ht hn=>by
  have h1:=(h.low g t ht).1;refine⟨?_,hz g h1⟩;unfold TJ;rw[if_neg (by omega),if_neg (fun e=>by rw[e,h.jr] at ht;cases ht;exact hn rfl)];exact ht
 obtain⟨m1,m2⟩:=hk MB _ h.jg (by simp);refine⟨hd,by unfold TJ;rw[if_pos rfl],h.map.same m2,m1,fun i e he=>?_,h.non,fun b t ht=>?_,h.dom,h.wf,h.few,fun b i hb=>?_⟩
 ·obtain⟨b,va,vk,h1,h2⟩:=h.els i e he;exact⟨b,va,vk,h1,(h2.turn fun g t ht hh=>hk g t ht (by rcases hh with rfl|rfl|rfl<;>simp)).a0Y (by omega)⟩
 ·unfold TJ at ht;split at ht
  ·rename_i e;subst e;exact⟨hB,aM hd⟩
  ·split at ht
   ·cases ht
   ·have:=h.low b t ht;omega
 ·refine h.Pf b i ?_;unfold TJ at hb;split at hb
  ·rcases hb with hb|hb|hb<;>cases hb
  ·split at hb
   ·rcases hb with hb|hb|hb<;>cases hb
   ·exact hb
structure Ed where
 kd:Bs
 n:Int
 m:Int
 ea:Int
 nm:Bs
 vl:Bs
abbrev iF (x:Ed):Array ah:=#[.string ⟨x.kd.toArray⟩,aa x.n,aa x.m,aa x.ea,.string ⟨x.nm.toArray⟩,.string ⟨x.vl.toArray⟩]
structure NZ (w:ag)(b:Nat)(x:Ed):Prop where
 c0:w.cell? (ak b 0)=some (.string ⟨x.kd.toArray⟩)
 c1:w.cell? (ak b 1)=some (aa x.n)
 c2:w.cell? (ak b 2)=some (aa x.m)
 c3:w.cell? (ak b 3)=some (aa x.ea)
 c4:w.cell? (ak b 4)=some (.string ⟨x.nm.toArray⟩)
 c5:w.cell? (ak b 5)=some (.string ⟨x.vl.toArray⟩)
theorem NZ.of {w:ag}{b:Nat}{x:Ed}{t:TypeId}(h:w.heap[b]? =some (.cells (iF x) t)):NZ w b x:=⟨aF h 0 _ rfl,aF h 1 _ rfl,aF h 2 _ rfl,aF h 3 _ rfl,aF h 4 _ rfl,aF h 5 _ rfl⟩
def dM:Bs:=[115,104,101,101,116]
theorem mG {a b:Bs}(h:a≠b):(a==b)=false:=beq_eq_false_iff_ne.2 h
theorem Ck (x:Ed)(hx:x.kd≠dM)(o:Option Addr)(n cp:Nat)(W:ag):
  ax 30 #[.slice o n cp,.agg (iF x)] W fun e w'=>e=.returned (.tuple #[.slice o n cp,.nilIface])/\Below W.heap.size W w':=by
 have hk:=NZ.of (cZ W (iF x) 45);have h0:=hk.c0;have hn:=mG hx;unfold dM at hn;clear hk;go_enter func30,ntmps30;go_wp2_with fail
 go_ret2
 exact⟨rfl,di _ _⟩
theorem bY.cl {B:Nat}{tg:bf}{W:ag}{DB MB:Nat}{p:Int->Option Nat}{M:Dm}{nx c:Nat}{r:Int->Nat}(h:bY M)(hd:dN B tg W DB MB p M nx c r):a8J M:=fun i e he=>by
 obtain⟨-,h2,h3⟩:=h i e he;have h4:=hd.few he;refine⟨by omega,by omega,fun a ha=>?_⟩;have h5:=vz (h3.1 a ha).1;have h6:=wZ (h3.1 a ha).2;simp only[maxLen];omega
end
section
def KN (l:List Pc):Prop:=∀x∈l,x.pts.length<=30
theorem Qk {l:List Qt}(h:okB l=true):l.length<=30:=by
 unfold okB at h;simp only[Bool.and_eq_true,decide_eq_true_eq] at h;exact h.1
theorem a13 {m:Mv}{q q':List Qt}(h:Uk m q=some q'):q'.length=q.length:=by
 unfold Uk at h;split at h
 ·cases h;rw[List.length_map]
 ·cases h
theorem a14 {M:Dm}{n:Int}{q:List Qt}(h:VZ M n=.ok q):q.length<=30:=by
 unfold VZ nS at h
 repeat' split at h
 all_goals try cases h
 next hb=>exact Qk hb.2.2
theorem Y5 {M:Dm}{n:Int}{q:List Qt}(h:EE M n=.ok q):q.length<=30:=by
 unfold EE AZ at h
 repeat' split at h
 all_goals try cases h
 ·exact Nat.zero_le _
 ·next hb=>exact Qk hb
theorem Ql {α:Type}(g:Nat×List Pc->α->Except Ft (Nat×List Pc))(hg:∀s x s',g s x=.ok s'->KN s.2->KN s'.2):∀(l:List α) (s s':Nat×List Pc),l.foldlM g s=.ok s'->KN s.2->KN s'.2
 |[],s,s',h,h0=>by cases h;exact h0
 |x::l,s,s',h,h0=>by
  rw[List.foldlM_cons] at h;cases hx:g s x with
  |error e=>rw[hx] at h;cases h
  |ok t=>
   rw[hx] at h;exact Ql g hg l t s' h (hg s x t hx h0)
theorem GD (M:Dm)(l:List Rl):∀(f:Nat) (n:Int) (path:List Int) (m:Mv) (st s':Nat×List Pc),dF M l f n path m st=.ok s'->KN st.2->KN s'.2
 |0,n,path,m,st,s',h,_=>by
  unfold dF at h;split at h<;>cases h
 |f+1,n,path,m,st,s',h,h0=>by
  unfold dF at h;split at h
  ·cases h
  split at h
  ·cases h
  split at h
  ·cases h;exact h0
  have PC:∀(m':Mv) (x:Except Nat (List Qt)),(∀q,x=.ok q->q.length<=30)->iH M l n m' x (st.1+1,st.2)=.ok s'->KN s'.2:=fun m' x hx h=>by
   unfold iH at h;split at h
   ·cases h
   ·next q=>
    split at h
    ·cases h
    ·next q' hq=>
     split at h
     ·cases h;exact h0
     ·cases h;intro y hy;rcases List.mem_append.1 hy with hy|hy
      ·exact h0 y hy
      ·simp at hy;subst hy;show q'.length<=30;rw[a13 hq];exact hx q rfl
  split at h
  ·cases h
  ·split at h
   ·exact PC _ _ (fun q hq=>a14 hq) h
   ·split at h
    ·exact PC _ _ (fun q hq=>Y5 hq) h
    ·split at h
     ·exact Ql _ (fun s x s' h=>GD M l f x _ _ s s' h) _ (st.1+1,st.2) s' h h0
     ·split at h
      ·cases h
      ·exact GD M l f _ _ _ (st.1+1,st.2) s' h h0
theorem TL {M:Dm}{rl:List Rl}{l:List Pc}(hp:eF M rl=.ok l):KN l:=by
 unfold eF at hp;cases hc:dF M rl 101 0 [-1] .one (0,[]) with
 |error e=>rw[hc] at hp;cases hp
 |ok st=>
  rw[hc] at hp;have hl:=Except.ok.inj hp;rw[<- hl];have h1:=GD M rl 101 0 [-1] .one (0,[]) st hc (fun x hx=>by cases hx);intro x hx;unfold sJ at hx;obtain⟨k, -,h2⟩:=List.mem_flatMap.1 hx;exact h1 x (List.mem_filter.1 h2).1
end
section
open Go.RowKit
set_option maxRecDepth 20000
abbrev KQ (a b:List dm)(h:Nat):List Int:=(jS (a.map dm.pc) (b.map dm.pc) h).map fun(y:Nat)=>(y:Int)
def DoR (W:ag)(LB B:Nat)(tg:bf)(DB MB:Nat)(p:Int->Option Nat)(M:Dm)(nx c:Nat)(r:Int->Nat)(rl:List Rl)(rv:ah)(qs:List dm)(pv:ah)(w h:Nat)(cv:ah)(AE RE:Prop)(AO:Dm->Nat->Nat->(Int->Nat)->Prop)(rl':List Rl)(e:Ending)(w':ag):Prop:=
 ((∃t u,e=.returned (.tuple #[.slice none 0 0,.iface t u]))/\Below W.heap.size W w'/\LvS w' LB B tg DB MB p M nx c r rl rv qs pv w h cv/\(AE\/RE\/∃M2 gQ c2 r2,AO M2 gQ c2 r2/\¬yZ M2 rl'))\/
 (∃jM MB2 p2 M2 gQ c2 r2 rv2 pK pv2 cv2 o n cp,AO M2 gQ c2 r2/\yZ M2 rl'/\K2 LB DB W w'/\e=.returned (.tuple #[.slice o n cp,.nilIface])/\w'.ownsRow W.heap.size 3 1 (.slice o n cp) (KQ qs pK h).length (bD (KQ qs pK h))/\LvS w' LB B jM DB MB2 p2 M2 gQ c2 r2 rl' rv2 pK pv2 w h cv2)
section
variable {E:Nat->Addr}{W:ag}{LB B:Nat}{tg:bf}{DB MB:Nat}{p:Int->Option Nat}{M:Dm}{nx c:Nat}{r:Int->Nat}{rl:List Rl}{rv:ah}{qs:List dm}{pv:ah}{w h:Nat}{cv:ah}
structure TM (Y:ag)(LB:Nat)(cs:Array ah)(t:TypeId)(Z:ag):Prop where
 lb:Z.heap[LB]? =some (.cells cs t)
 ne:∀b,b≠LB->Z.heap[b]? =Y.heap[b]?
 sz:Z.heap.size=Y.heap.size
 os:Z.os=Y.os
 tape:Z.tape=Y.tape
 out:Z.output=Y.output
theorem TM.set {Y Z:ag}{LB:Nat}{cs:Array ah}{t:TypeId}{i:Nat}{v:ah}(h:TM Y LB cs t Z):TM Y LB (cs.setIfInBounds i v) t (Z.setCell ⟨LB,i,none⟩ v):=by
 have hs:=(Below.refl LB Z).setCell (p:=⟨LB,i,none⟩) ai v;exact⟨heap_setCell_same Z LB i _ _ _ h.lb,fun b hb=>(Below.heap_setCell _ _ _ b hb).trans (h.ne b hb),(World.size_setCell _ _ _).trans h.sz,hs.os.trans h.os,hs.tape.trans h.tape,hs.output.trans h.out⟩
theorem TM.drew {Y Z:ag}{LB:Nat}{cs:Array ah}{t:TypeId}(h:TM Y LB cs t Z):TM Y LB cs t Z.drew:=⟨h.lb,h.ne,h.sz,h.os,h.tape,h.out⟩
theorem TM.self {Y:ag}{LB:Nat}{cs:Array ah}{t:TypeId}(h:Y.heap[LB]? =some (.cells cs t)):TM Y LB cs t Y:=⟨h,fun _ _=>rfl,rfl,rfl,rfl,rfl⟩
theorem Cm {w w':ag}{base k n:Nat}{t:TypeId}{v:ah}{xs:List ah}(h:w.ownsRow base t k v n xs)(hs:∀(g:Nat) (cs:Array ah) (f:Nat×Nat),w.heap[g]? =some (Obj.cells cs t f)->w'.heap[g]? =w.heap[g]?):w'.ownsRow base t k v n xs:=
 bT h fun g hg=>by obtain⟨cs,f,h1, -⟩:=fo h g hg;exact hs g cs f h1
theorem a15 {x:dm}(h:ji (fK x.pc)):x.pts.length<=1000:=by
 have h1:x.pts.length<=30:=h.1.1;omega
theorem a4C (a b:List dm)(y:Nat):(!decide ((xG (a.map dm.pc) y).map nC=(xG (b.map dm.pc) y).map nC))=false↔sP ((a.map dm.p5).filter fun x=>aI x.s.pts y)=sP ((b.map dm.p5).filter fun x=>aI x.s.pts y):=by
 have e1:∀l:List dm,sP ((l.map dm.p5).filter fun x=>aI x.s.pts y)=(xG (l.map dm.pc) y).map fK:=fun l=>by
  rw[<- NI,List.filter_map,List.map_map,sP,List.map_map,List.filter_map];rfl
 rw[e1,e1];simp only[Bool.not_eq_false',decide_eq_true_eq];constructor
 ·exact fun hh=>Qf hh
 ·intro hh;have e2:∀l:List Pc,l.map nC=(l.map fK).map fun s=>(s.fill.toList,s.rule.toList,s.pts):=fun l=>by
   rw[List.map_map];refine List.map_congr_left fun x _=>?_;simp[nC,fK,ByteArray.toList_eq]
  rw[e2,e2,hh]
theorem O0 (hE:LE E W)(hl:LvS W LB B tg DB MB p M nx c r rl rv qs pv w h cv)(hw1:1<=w)(hw:w<=40)(Ac:1<=h)(hh:h<=40)(x:Ed)(AE RE:Prop)(AO:Dm->Nat->Nat->(Int->Nat)->Prop)(rl':List Rl)(Y6:∀y∈rl',YI y)
  (hAp:∀N V kJ lW pM p1,W.heap.size<=N->Below W.heap.size W V->dN N kJ V lW pM p1 M nx c r->ax 29 #[ay lW,.agg (iF x)] V fun e w'=>Below N V w'/\((AE/\∃t u,e=.returned (.iface t u))\/(e=.returned .nilIface/\∃jM p2 M2 gQ c2 r2,AO M2 gQ c2 r2/\bY M2/\dN N jM w' lW pM p2 M2 gQ c2 r2)))
  (hRb:∀V,Below W.heap.size W V->ax 30 #[rv,.agg (iF x)] V fun e w'=>Below V.heap.size V w'/\((RE/\∃u t y,e=.returned (.tuple #[u,.iface t y]))\/∃o n cp,e=.returned (.tuple #[.slice o n cp,.nilIface])/\w'.ownsRow B 110 3 (.slice o n cp) rl'.length (dZ rl'))):
  ax 11 #[ay LB,.agg (iF x)] W fun e w'=>DoR W LB B tg DB MB p M nx c r rl rv qs pv w h cv AE RE AO rl' e w':=by
 obtain⟨Lv,Lx,N7⟩:=aH hl.row;obtain⟨opv,cpv,hpv⟩:=aH hl.pc.own;obtain⟨ocv,ccv,hcv⟩:=aH hl.Uo;subst N7 hpv hcv;have b0:=di W (.cells (iF x) 45);have kb:=cZ W (iF x) 45;go_enter func11,ntmps11;go_upto_region 1 with fail;obtain⟨U,hU⟩:∃U,W.alloc (.cells (iF x) 45)=U:=⟨_,rfl⟩;rw[hU] at b0 kb⊢;clear hU;have hlU:=hl.below b0;have l0:=aF hlU.lb 0 _ rfl;have CL:ax 28 #[ay DB] U fun e w1=>∃lW pM kJ p1,e=.returned (ay lW)/\Below U.heap.size U w1/\Hid (dN U.heap.size kJ w1 lW pM p1 M nx c r):=(TF hlU.ds.w hlU.ds.n (hl.ok.cl hl.ds)).mono fun e w1 ⟨h1,lW,pM,kJ,p1,h2,h3⟩=>⟨lW,pM,kJ,p1,h2,h1,h3,hl.ds.d,hl.ds.n,hl.ds.le,h1.size⟩;go_upto_region 2 with(go_at_call 28;refine CL.mono ?_;rintro e w1 ⟨lW,pM,kJ,p1,rfl,b1,hd1⟩);have sS:=aG b0 b1;have AP:=hAp U.heap.size w1 kJ lW pM p1 b0.size sS hd1.out;have kb1:=(b1.block _ (aM kb)).trans kb;obtain⟨e0,e1,e2,e3,e4,e5⟩:=NZ.of kb1;clear l0 CL hlU hAp hd1;go_upto_region 3 with(go_at_call 29;refine AP.mono ?_;rintro e w2 ⟨b2,h2⟩;obtain⟨v2,rfl,hv2⟩:∃v,e=.returned v/\((AE/\∃t u,v=.iface t u)\/(v=.nilIface/\∃jM p2 M2 gQ c2 r2,AO M2 gQ c2 r2/\bY M2/\dN U.heap.size jM w2 lW pM p2 M2 gQ c2 r2)):=(by rcases h2 with⟨k1,t,u,k2⟩|⟨k1,k2⟩;exact⟨_,k2,.inl ⟨k1,t,u,rfl⟩⟩;exact⟨_,k1,.inr ⟨rfl,k2⟩⟩);clear h2);clear AP e0 e1 e2 e3 e4 e5;have Om:Below W.heap.size W w2:=sS.trans (b2.mono b0.size);rcases hv2 with⟨ha,t,u,rfl⟩|⟨rfl,jM,p2,M2,gQ,c2,r2,hao,hok2,hd2⟩
 ·go_wp2_with fail
  go_ret2
  exact .inl ⟨⟨t,u,rfl⟩,Om,hl.below Om,.inl ha⟩
 have sU:=aM kb;have kb2:w2.heap[W.heap.size]? =some (.cells (iF x) 45):=(b2.block _ sU).trans kb1;have k2:=NZ.of kb2;have lb2:=(Om.block _ (aM hl.lb)).trans hl.lb;have RB:=(hRb w2.drew (below_drewN Om 1)).mono (R':=fun e w3=>∃v u,e=.returned (.tuple #[v,u])/\Below w2.heap.size w2 w3/\((RE/\∃t y,u=.iface t y)\/(u=.nilIface/\∃o n cp,v=.slice o n cp/\w3.ownsRow B 110 3 (.slice o n cp) rl'.length (dZ rl')))) fun e w3 ⟨q1,q2⟩=>by
  have q1':Below w2.heap.size w2 w3:=⟨q1.os,q1.tape,q1.output,q1.size,q1.block⟩;rcases q2 with⟨q2,u,t,y,q3⟩|⟨o,n,cp,q3,q4⟩
  ·exact⟨_,_,q3,q1',.inl ⟨q2,t,y,rfl⟩⟩
  ·exact⟨_,_,q3,q1',.inr ⟨rfl,o,n,cp,rfl,q4⟩⟩
 obtain⟨e0,e1,e2,e3,e4,e5⟩:=k2;have l1:=aF lb2 1 _ rfl;have HD2:=aj hd2;have HL:=aj hl;clear hRb hd2 hl kb kb1;go_upto_region 5 with fail
 go_cut [8,9] from 24 to 32 (fun v u wx=>Below w2.heap.size w2 wx/\((RE/\∃t y,u=.iface t y)\/(u=.nilIface/\∃o n cp,v=.slice o n cp/\wx.ownsRow B 110 3 (.slice o n cp) rl'.length (dZ rl'))))
 case first=>
  go_region_with (go_at_call 30;refine RB.mono ?_;rintro e w3 ⟨v3,u3,rfl,b3,h3⟩)
  all_goals go_wp2_with fail
  all_goals go_meet
  all_goals exact⟨b3,h3⟩
 case rest=>
  clear RB l1 e0 e1 e2 e3 e4 e5;obtain⟨b3,h3⟩:=hcut;have wE:=aG Om b3;rcases h3 with⟨hre,t,y,rfl⟩|⟨rfl,o3,n3,cp3,rfl,ED⟩
  ·go_wp2_with fail
   go_ret2
   exact .inl ⟨⟨t,y,rfl⟩,wE,HL.out.below wE,.inr (.inl hre)⟩
  have hd3:=HD2.out.below b3;have PI:=Ce (l:=rl') (B0:=B) ⟨hd3,(hE.below wE).ne,hok2.fit.1,hok2.fit.2,Y6,ED⟩;obtain⟨pm,hpm⟩:∃x,eF M2 rl'=x:=⟨_,rfl⟩;rw[hpm] at PI;have TC:=aj hpm;clear hpm;cases pm with
  |error ft=>
   have PI':=PI.mono (R':=fun e w4=>∃pb,e=.returned (.tuple #[.slice none 0 0,.iface 113 (ay pb)])/\Below wc.heap.size wc w4) fun e w4 ⟨⟨u,h1,pb,_,h2,_⟩,h4⟩=>⟨pb,by rw[h1,h2],h4⟩;clear PI;go_wp2_with(go_at_call 26;refine PI'.mono ?_;rintro e w4 ⟨pb,rfl,b4⟩)
   go_ret2
   have bw4:=aG wE b4;exact .inl ⟨⟨_,_,rfl⟩,bw4,HL.out.below bw4,.inr (.inr ⟨M2,gQ,c2,r2,hao,fun⟨l,h1,_⟩=>by rw[TC.out] at h1;exact absurd h1 (by simp)⟩)⟩
  |ok l=>
   have PI':=PI.mono (R':=fun e w4=>∃pK o4 n4 c4,e=.returned (.tuple #[.slice o4 n4 c4,.nilIface])/\Hid (pK.map dm.pc=l)/\uw w4 wc.heap.size (.slice o4 n4 c4) pK/\Below wc.heap.size wc w4) fun e w' ⟨⟨qs,v,h1,h2,h3,h4,h5⟩,h6⟩=>by
    obtain⟨o,cp,rfl⟩:=aH h3;exact⟨qs,o,_,cp,h2,h1,⟨h3,h4,h5⟩,h6⟩
   clear PI;go_upto_region 11 with(go_at_call 26;refine PI'.mono ?_;rintro e w4 ⟨pK,o4,n4,c4,rfl,q4,p4,b4⟩);have bw4:=aG wE b4;have lb4:=(bw4.block _ (aM HL.out.lb)).trans HL.out.lb;have l2:=aF lb4 2 _ rfl;have l4:=aF lb4 4 _ rfl;have hq2:pK.length<=1000:=by have h1:=Ci TC.out;rw[<- q4.out,List.length_map] at h1;exact h1
   have adq:∀y∈pK.map dm.p5,y.s.pts.length<=1000:=fun y hy=>by
    obtain⟨z,hz,rfl⟩:=List.mem_map.1 hy;have h1:=TL TC.out z.pc (by rw[<- q4.out];exact List.mem_map_of_mem hz);exact Nat.le_trans h1 (by omega)
   have adr:∀y∈qs.map dm.p5,y.s.pts.length<=1000:=fun y hy=>by
    obtain⟨z,hz,rfl⟩:=List.mem_map.1 hy;exact a15 (HL.out.pk z hz)
   have CR:ax 31 #[.slice opv qs.length cpv,.slice o4 n4 c4,aa h] w4.drew fun e w5=>∃o n cp,e=.returned (.slice o n cp)/\w5.ownsRow w4.heap.size 3 1 (.slice o n cp) (KQ qs pK h).length (bD (KQ qs pK h))/\Below w4.heap.size w4 w5:=by
    obtain⟨oA,cA,hA1,hA2,hA3⟩:=(HL.out.pc.below (below_drewN bw4 1)).row;obtain⟨oB,cB,hB1,hB2,hB3⟩:=(p4.below (below_drewN (Below.refl _ _) 1)).row;rw[hA1,hB1];refine(yY (E 2) (E 3) (E 3) _ _ oA oB cA cB h (fun y=> !decide ((xG (qs.map dm.pc) y).map nC=(xG (pK.map dm.pc) y).map nC)) w4.drew (by rw[List.length_map];exact HL.out.ql) (by rw[List.length_map];exact hq2) hA2 hB2 hA3 hB3 adr adq (hE.below (below_drewN bw4 1)).ep.e3 (by omega) (a4C qs pK)).mono fun e w5 ⟨v,h1,h2,h3⟩=>?_;obtain⟨o,cp,rfl⟩:=aH h2;exact⟨o,_,cp,h1,h2,⟨h3.os,h3.tape,h3.output,h3.size,h3.block⟩⟩
   go_cut [11] from 45 to 55 (fun v wx=>∃o n cp,v=.slice o n cp/\wx.ownsRow w4.heap.size 3 1 (.slice o n cp) (KQ qs pK h).length (bD (KQ qs pK h))/\Below w4.heap.size w4 wx)
   case first=>
    go_region_with (go_at_call 31;refine CR.mono ?_;rintro e w5 ⟨o5,n5,c5,rfl,GZ,b5⟩)
    all_goals go_wp2_with fail
    all_goals go_meet
    all_goals exact⟨_,_,_,rfl,GZ,b5⟩
   case rest=>
    obtain⟨o5,n5,c5,rfl,GZ,b5⟩:=hcut;clear CR l2 l4;have bw5:=aG bw4 b5;have lb5:=(bw5.block _ (aM HL.out.lb)).trans HL.out.lb;have l3:=aF lb5 3 _ rfl;have l4:=aF lb5 4 _ rfl;have l5:=aF lb5 5 _ rfl;have hup:=NJ (qs.map dm.pc) (pK.map dm.pc) h;have PA:ax 32 #[.agg #[aa w,aa h,.slice ocv (w*h) ccv],.slice o4 n4 c4,.slice o5 n5 c5] wc fun e w6=>Below wc.heap.size wc w6/\(((∀x∈pK,ji (fK x.pc))/\∃g cp,e=.returned (.tuple #[.agg #[aa w,aa h,.slice (some ⟨g,0,none⟩) (w*h) cp],.nilIface])/\Hid (w6.ownsRow wc.heap.size 9 1 (.slice (some ⟨g,0,none⟩) (w*h) cp) (w*h) ((jD aI ((pK.map dm.pc).map fK) w h).map .string)))\/((¬∀x∈pK,ji (fK x.pc))/\∃a,e=.returned (.tuple #[.agg #[aa 0,aa 0,.slice none 0 0],.iface 113 (.pointer (some a))]))):=by
     obtain⟨oB,cB,hB1,hB2,hB3⟩:=(p4.below b5).row;rw[hB1];refine(yX (E 2) (E 3) (E 3) (E 10) (pK.map dm.p5) oB cB w h _ B (.slice ocv (w*h) ccv) (jS (qs.map dm.pc) (pK.map dm.pc) h) w4.heap.size (.slice o5 n5 c5) wc hw1 hw Ac hh (by rw[List.length_map];exact hq2) hB2 hB3 (hE.below bw5).ep (aP HL.out.Uo bw5) (iJ _ _ _ _) (by simpa using GZ) (Nat.le_trans (List.length_filter_le _ _) (by rw[List.length_range];omega)) hup.2).mono fun e w6 ⟨h1,h2⟩=>⟨h2,?_⟩;have hok:jy (pK.map dm.p5)↔∀x∈pK,ji (fK x.pc):=by
      unfold jy;constructor
      ·intro hh x hx;exact hh _ (List.mem_map_of_mem hx)
      ·intro hh x hx;obtain⟨y,hy,rfl⟩:=List.mem_map.1 hx;exact hh y hy
     rcases h1 with⟨h3,v,h4,h5⟩|⟨h3,a,h4⟩
     ·obtain⟨g,cp,rfl, -, -⟩:=h5.form (Nat.mul_pos hw1 Ac);rw[a2f,<- EX,XB] at h5;exact .inl ⟨hok.1 h3,g,cp,h4,h5⟩
     ·exact .inr ⟨fun hh=>h3 (hok.2 hh),a,h4⟩
    by_cases hk:∀x∈pK,ji (fK x.pc)
    ·have PA':=PA.mono (R':=fun e w6=>∃g cp,e=.returned (.tuple #[.agg #[aa w,aa h,.slice (some ⟨g,0,none⟩) (w*h) cp],.nilIface])/\Below wc.heap.size wc w6/\Hid (w6.ownsRow wc.heap.size 9 1 (.slice (some ⟨g,0,none⟩) (w*h) cp) (w*h) ((jD aI ((pK.map dm.pc).map fK) w h).map .string))) fun e w6 ⟨h1,h2⟩=>by
      rcases h2 with⟨-,g,cp,h3,h4⟩|⟨h2, -⟩
      ·exact⟨g,cp,h3,h1,h4⟩
      ·exact absurd hk h2
     have HK:=aj hk;clear PA hk;go_upto_region 15 with(go_at_call 32;refine PA'.mono ?_;rintro e w6 ⟨g6,c6,rfl,b6,YK⟩);have bX:=di w6 (.cells #[aa w,aa h,.slice (some ⟨g6,0,none⟩) (w*h) c6] 40);have pX:=cZ w6 #[aa w,aa h,.slice (some ⟨g6,0,none⟩) (w*h) c6] 40;obtain⟨X,hX⟩:∃X,w6.alloc (.cells #[aa w,aa h,.slice (some ⟨g6,0,none⟩) (w*h) c6] 40)=X:=⟨_,rfl⟩;rw[hX] at bX pX⊢;have b5X:=aG b6 bX;have b4X:=aG b5 b5X;have b3X:=aG b4 b4X;have UM:=aG bw5 b5X;have lbX:=(UM.block _ (aM HL.out.lb)).trans HL.out.lb;have dbX:=(UM.block _ (aM HL.out.ds.w.doc)).trans HL.out.ds.w.doc;have dX:=HD2.out.below (aG b3 b3X);have d1X:=dX.w.doc;have hne:LB≠DB:=fun e1=>by rw[e1,dbX] at lbX;cases lbX
     have hLW:=aM HL.out.lb;have hDW:=aM HL.out.ds.w.doc;have hPW:W.heap.size<=w6.heap.size:=(aG bw5 b6).size;obtain⟨PB,hPB⟩:∃PB,w6.heap.size=PB:=⟨_,rfl⟩;rw[hPB] at pX hPW⊢;have x0:X.drew.cell? (ak LB 0)=some (ay DB):=aF lbX 0 _ rfl;have x1:X.drew.cell? (ak lW 0)=some (.map (some pM)):=aF d1X 0 _ rfl;have x2:X.drew.cell? (ak lW 1)=some (aa gQ):=aF d1X 1 _ rfl;have x3:X.drew.cell? (ak DB 0)=some (.map (some MB)):=aF dbX 0 _ rfl;have x5:X.drew.frozen? ⟨DB,0,none⟩=false:=aR dbX 0;have y1:X.cell? (ak lW 0)=some (.map (some pM)):=aF d1X 0 _ rfl;have y2:X.cell? (ak lW 1)=some (aa gQ):=aF d1X 1 _ rfl;have y3:X.cell? (ak DB 0)=some (.map (some MB)):=aF dbX 0 _ rfl;have y4:X.cell? (ak DB 1)=some (aa nx):=aF dbX 1 _ rfl;have y5:X.frozen? ⟨DB,0,none⟩=false:=aR dbX 0;have y6:X.frozen? ⟨DB,1,none⟩=false:=aR dbX 1;clear hX hPB;go_region;have yz:∃cs,TM X DB cs 85 ((X.setCell ⟨DB,0,none⟩ (.map (some pM))).setCell ⟨DB,1,none⟩ (aa gQ)).drew/\cs=#[.map (some pM),aa gQ]:=⟨_,((TM.self dbX).set.set).drew,rfl⟩;obtain⟨cs1,yz,hcs1⟩:=yz;subst hcs1;obtain⟨Y,hY⟩:∃Y,((X.setCell ⟨DB,0,none⟩ (.map (some pM))).setCell ⟨DB,1,none⟩ (aa gQ)).drew=Y:=⟨_,rfl⟩;rw[hY] at yz⊢;clear hY x0 x1 x2 x3 x5 y1 y2 y3 y4 y5 y6;have Y7:=(yz.ne LB hne).trans lbX;have pY:=(yz.ne PB (by omega)).trans pX;have a2k:∀Z,TM Y LB #[ay DB,.slice o3 n3 cp3,.slice o4 n4 c4,aa w,aa h,.slice (some ⟨g6,0,none⟩) (w*h) c6] 77 Z->DoR W LB B tg DB MB p M nx c r rl (.slice Lv rl.length Lx) qs (.slice opv qs.length cpv) w h (.slice ocv (w*h) ccv) AE RE AO rl' (.returned (.tuple #[.slice o5 n5 c5,.nilIface])) Z:=fun Z hz=>by
      have zn:∀b,b≠LB->b≠DB->Z.heap[b]? =X.heap[b]? :=fun b h1 h2=>(hz.ne b h1).trans (yz.ne b h2);have zs:Z.heap.size=X.heap.size:=hz.sz.trans yz.sz;have tyk:∀(g:Nat) (cs:Array ah) (t:TypeId) (f:Nat×Nat),X.heap[g]? =some (Obj.cells cs t f)->t≠77->t≠85->Z.heap[g]? =X.heap[g]? :=fun g cs t f h1 h2 h3=>zn g (fun e1=>by rw[e1,lbX] at h1;cases h1;exact h2 rfl) (fun e1=>by rw[e1,dbX] at h1;cases h1;exact h3 rfl);have dbZ:Z.heap[DB]? =some (.cells #[.map (some pM),aa gQ] 85):=(hz.ne DB (fun e1=>hne e1.symm)).trans yz.lb;have hbB:B<=W.heap.size:=by have h1:=HL.out.base;omega
      have adu:=(HL.out.ds.w.low _ _ HL.out.ds.w.jr).1;have zk:K2 LB DB W Z:=⟨hz.os.trans (yz.os.trans UM.os),hz.tape.trans (yz.tape.trans UM.tape),hz.out.trans (yz.out.trans UM.output),by rw[zs];exact UM.size,fun b hb h1 h2=>(zn b h1 h2).trans (UM.block b hb)⟩;have hw:=dX.w.home (B':=B) (Z:=Z) (DB:=DB) adu (by have:=b0.size;omega) (fun b hb=>zn b (by have:=b0.size;omega) (by have:=b0.size;omega)) dbZ (by rw[zs];exact Nat.le_refl _);refine .inr ⟨_,pM,p2,M2,gQ,c2,r2,.slice o3 n3 cp3,pK,.slice o4 n4 c4,.slice (some ⟨g6,0,none⟩) (w*h) c6,o5,n5,c5,hao,⟨l,TC.out,fun y hy=>?_⟩,zk,rfl,?_,⟨hz.lb,HL.out.base,⟨hw,dX.d,dX.n,dX.le,by rw[zs];exact Nat.le_trans hbB UM.size⟩,hok2,Y6,?_,⟨?_,fun y hy=>?_,p4.rt⟩,by rw[q4.out];exact TC.out,HK.out,hq2,?_⟩⟩
      ·rw[<- q4.out] at hy;obtain⟨z,hz',rfl⟩:=List.mem_map.1 hy;exact HK.out z hz'
      ·exact fH (Cm (aP GZ b5X) fun g cs f hg=>tyk g cs _ f hg (by decide) (by decide)) bw4.size
      ·exact Cm (aP ED b3X) fun g cs f hg=>tyk g cs _ f hg (by decide) (by decide)
      ·exact fH (Cm (aP p4.own b4X) fun g cs f hg=>tyk g cs _ f hg (by decide) (by decide)) (Nat.le_trans hbB wE.size)
      ·exact fH (Cm (aP (p4.pts y hy) b4X) fun g cs f hg=>tyk g cs _ f hg (by decide) (by decide)) (Nat.le_trans hbB wE.size)
      ·exact fH (Cm (aP YK.out bX) fun g cs f hg=>tyk g cs _ f hg (by decide) (by decide)) (Nat.le_trans hbB bw5.size)
     have HFI:=aj a2k;clear a2k;have y1:=aF Y7 1 _ rfl;have y2:=aF Y7 2 _ rfl;have y3:=aF Y7 3 _ rfl;have y4:=aF Y7 4 _ rfl;have y5:=aF Y7 5 _ rfl;have f1:=aR Y7 1;have f2:=aR Y7 2;have f3:=aR Y7 3;have f4:=aR Y7 4;have f5:=aR Y7 5;have p1:=aF pY 0 _ rfl;have p2:=aF pY 1 _ rfl;have p3:=aF pY 2 _ rfl;go_upto_region 16 with fail;go_region;have hz:∃cs,TM Y LB cs 77 (((((Y.setCell ⟨LB,1,none⟩ (.slice o3 n3 cp3)).setCell ⟨LB,2,none⟩ (.slice o4 n4 c4)).setCell ⟨LB,3,none⟩ (aa w)).setCell ⟨LB,4,none⟩ (aa h)).setCell ⟨LB,5,none⟩ (.slice (some ⟨g6,0,none⟩) (w*h) c6)).drew/\cs=#[ay DB,.slice o3 n3 cp3,.slice o4 n4 c4,aa w,aa h,.slice (some ⟨g6,0,none⟩) (w*h) c6]:=⟨_,((TM.self Y7).set.set.set.set.set).drew,rfl⟩;obtain⟨cs2,hz,hcs2⟩:=hz;subst hcs2;have HZ:Hid (DoR W LB B tg DB MB p M nx c r rl (.slice Lv rl.length Lx) qs (.slice opv qs.length cpv) w h (.slice ocv (w*h) ccv) AE RE AO rl' (.returned (.tuple #[.slice o5 n5 c5,.nilIface])) (((((Y.setCell ⟨LB,1,none⟩ (.slice o3 n3 cp3)).setCell ⟨LB,2,none⟩ (.slice o4 n4 c4)).setCell ⟨LB,3,none⟩ (aa w)).setCell ⟨LB,4,none⟩ (aa h)).setCell ⟨LB,5,none⟩ (.slice (some ⟨g6,0,none⟩) (w*h) c6)).drew):=HFI.out _ hz;clear hz HFI;go_wp2_with fail
     go_ret2
     exact HZ.out
    ·have PA':=PA.mono (R':=fun e w6=>∃a,e=.returned (.tuple #[.agg #[aa 0,aa 0,.slice none 0 0],.iface 113 (.pointer (some a))])/\Below wc.heap.size wc w6) fun e w6 ⟨h1,h2⟩=>by
      rcases h2 with⟨h2, -⟩|⟨-,a,h3⟩
      ·exact absurd h2 hk
      ·exact⟨a,h3,h1⟩
     have YH:Hid (¬yZ M2 rl'):=(fun⟨l',h1,h2⟩=>by
      rw[TC.out] at h1;have h3:=Except.ok.inj h1;subst h3;exact hk (fun y hy=>h2 y.pc (by rw[<- q4.out];exact List.mem_map_of_mem hy)):¬yZ M2 rl')
     clear PA hk;go_wp2_with(go_at_call 32;refine PA'.mono ?_;rintro e w6 ⟨a6,rfl,b6⟩)
     go_ret2
     have bw6:=aG bw5 (aG b6 (di w6 (.cells #[aa 0,aa 0,.slice none 0 0] 40)));exact .inl ⟨⟨_,_,rfl⟩,bw6,HL.out.below bw6,.inr (.inr ⟨M2,gQ,c2,r2,hao,YH.out⟩)⟩
end
end
section
open Go.RowKit
def O3 (tg:bf)(i:Int)(v:ah):bf:=fun x=>if v.ownBlock=some x then some (.ats i) else tg x
theorem aO.a4E {B:Nat}{tg:bf}{w w8:ag}{DB MB:Nat}{p:Int->Option Nat}{M:Dm}{nx c EB:Nat}{i:Int}{e:dO}{va vk v7:ah}{L:List (Bs×Bs)}(h:aO B tg w DB MB p M nx c)(hi:M i=some e)(hp:p i=some EB)(he:wu B tg w i EB e va vk)
  (hE:w8.heap[EB]? =some (.cells #[.string ⟨e.name.toArray⟩,v7,aa e.parent,vk] 90)) (kF:w8.ownsRow B 65 2 v7 L.length (aL L)) (Dc:v7.ownBlock=va.ownBlock\/∀g,v7.ownBlock=some g->w.heap.size<=g)
  (ho:w8.os=w.os) (ht:w8.tape=w.tape) (hu:w8.output=w.output) (hz:w.heap.size<=w8.heap.size) (blk:∀x,x<w.heap.size->x≠EB->va.ownBlock≠some x->w8.heap[x]? =w.heap[x]?):
  aO B (O3 tg i v7) w8 DB MB p (bJ M i ⟨e.name,L,e.parent,e.kids⟩) nx c/\(∀x,x<w.heap.size->O3 tg i v7 x=tg x)/\KT tg w w8:=by
 have Uj:=aM he.cells;have ZT:va.ownBlock≠some EB:=fun e1=>by have h1:=he.jH EB e1;rw[he.tag] at h1;cases h1
 have tk:∀x,x<w.heap.size->O3 tg i v7 x=tg x:=fun x hx=>by
  unfold O3;split
  ·rename_i h1;rcases Dc with h2|h2
   ·exact(he.jH x (h2.symm.trans h1)).symm
   ·have:=h2 x h1;omega
  ·rfl
 refine⟨h.put hi hp (va:=v7) (vk:=vk) ⟨hE,?_,kF,?_,?_,?_⟩ hz (h.wf i e hi) tk ?_ ?_ ?_,tk,⟨ho,ht,hu,hz,fun x hx hn=>?_⟩⟩
 ·rw[tk EB Uj];exact he.tag
 ·intro g hg;unfold O3;rw[if_pos hg]
 ·exact bT he.kids fun g hg=>blk g (he.kids.lt g hg).2 (fun e1=>by have h1:=he.gD g hg;rw[e1,he.tag] at h1;cases h1) (fun e1=>by have h1:=he.gD g hg;rw[he.jH g e1] at h1;cases h1)
 ·intro g hg;rw[tk g (he.kids.lt g hg).2];exact he.gD g hg
 ·intro x t ht;unfold O3 at ht;split at ht
  ·rename_i h1;exact kF.lt x h1
  ·have:=h.low x t ht;omega
 ·intro x hx;unfold O3;split
  ·exact .inr (.inr (.inl rfl))
  ·exact .inl (h.new hx)
 ·intro x t ht h1 h2 h3;exact blk x (h.low x t ht).2 (fun e1=>by rw[e1,he.tag] at ht;cases ht;exact h1 rfl) (fun e1=>by rw[he.jH x e1] at ht;cases ht;exact h2 rfl)
 ·exact blk x hx (fun e1=>by rw[e1,he.tag] at hn;cases hn) (fun e1=>by rw[he.jH x e1] at hn;cases hn)
theorem Qm:∀(l:List (Bs×Bs)) (nm v:Bs),jk l nm=none->iQ l nm v=l++[(nm,v)]
 |[],_,_,_=>rfl
 |a::l,nm,v,h=>by
  rw[jc] at h;rw[iQ];by_cases hk:(a.1==nm)=true
  ·rw[if_pos hk] at h;cases h
  ·rw[if_neg hk] at h⊢;rw[Qm l nm v h];rfl
theorem GG:∀(l:List (Bs×Bs)) (nm v:Bs) (k i:Nat),fI nm k l=((k+i:Nat):Int)->iQ l nm v=l.set i (nm,v)/\Cg l nm=l.take i++l.drop (i+1)/\∃x,l[i]? =some x/\x.1=nm
 |[],nm,v,k,i,h=>by unfold fI at h;omega
 |a::l,nm,v,k,i,h=>by
  unfold fI at h;rw[iQ,Cg];by_cases hk:(a.1==nm)=true
  ·rw[if_pos hk] at h⊢;rw[if_pos hk];obtain rfl:i=0:=by omega
   exact⟨rfl,by simp,a,rfl,eq_of_beq hk⟩
  ·rw[if_neg hk] at h⊢;rw[if_neg hk];have hi:1<=i:=by
    rcases ru l nm (k+1) with⟨h1, -⟩|⟨j,x,h1, -⟩<;>omega
   obtain⟨j,rfl⟩:∃j,i=j+1:=⟨i-1,by omega⟩;obtain⟨h1,h2,x,h3,h4⟩:=GG l nm v (k+1) j (by rw[h];congr 1;omega);exact⟨by rw[h1];rfl,by rw[h2];simp,x,by simpa using h3,h4⟩
theorem Cn:∀(l:List (Bs×Bs)) (i:Nat) (nm v:Bs),(∃x,l[i]? =some x/\x.1=nm)->(aL l).set (i*2+1) (.string ⟨v.toArray⟩)=aL (l.set i (nm,v))
 |[],_,_,_,⟨x,h,_⟩=>by simp at h
 |a::l,0,nm,v,⟨x,h,hx⟩=>by
  simp at h;subst h hx;rfl
 |a::l,i+1,nm,v,⟨x,h,hx⟩=>by
  have:=Cn l i nm v ⟨x,by simpa using h,hx⟩;rw[show(i+1)*2+1=i*2+1+1+1 from by omega];simp only[aL,List.cons_append,List.nil_append,List.set_cons_succ,this]
end
end Go.Proofs.YtjfiehbcamfdfaaGreatDoor
