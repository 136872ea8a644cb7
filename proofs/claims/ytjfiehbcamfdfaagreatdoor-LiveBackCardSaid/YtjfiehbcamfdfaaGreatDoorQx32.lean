/-
  Parts of the proof.
-/
import Derived.Test.YtjfiehbcamfdfaaGreatDoorQx31
namespace Go.Proofs.YtjfiehbcamfdfaaGreatDoor
open Go.Proofs.Tryz
section
open Go.RowKit Go.Maps
set_option maxHeartbeats 8000000
set_option maxRecDepth 20000
def a8r (M:Dm):Prop:=∀i e,M i=some e->e.ats.length<=1000000/\e.kids.length<=1000000/\∀a∈e.ats,a.1.length<=maxLen/\a.2.length<=maxLen
theorem Cf {w:World}{B:Nat}{v:Value}{l:List (Bs×Bs)}(h:w.ownsRow B 65 2 v l.length (aF l))(hl:∀a∈l,a.1.length<=maxLen/\a.2.length<=maxLen):kg w v l:=by
 obtain⟨o,cap,hv,hc,hm,hn,hg⟩:=bA h;refine⟨o,cap,hv,hc,hm,hn,fun i x hx=>?_⟩;obtain⟨h0,h1⟩:=uu l i x hx;obtain⟨g,hg1,c0⟩:=bJ h _ _ h0;obtain⟨g',hg2,c1⟩:=bJ h _ _ h1;rw[hg1] at hg2;cases hg2;exact⟨g,0,hg g hg1,by simpa using c0,by simpa using c1,hl x (List.mem_of_getElem? hx)⟩
theorem Sl {w0:World}{N nx:Nat}{M:Dm}(hN:w0.heap[N+1]? =some (.cells #[.map (some N),.int .i64 nx] 85))(hm:iA prog 3 w0 N (fun _=>none) 0 0)(hM:∀i,M i=none)(hf:nx<=1000000)(hz:N+1<w0.heap.size):
  bG N (fun x=>if x=N then some .map else if x=N+1 then some .doc else none) w0 (N+1) N (fun _=>none) M nx 0 where
 doc:=hN
 jP:=by rw[if_neg (by omega),if_pos rfl]
 map:=by
  obtain⟨D,h1,h2⟩:=hm;exact⟨D,h1.mono (Nat.zero_le _),h2⟩
 kF:=by rw[if_pos rfl]
 els:=fun i e he=>by rw[hM i] at he;cases he
 non:=fun i _=>rfl
 low:=fun b t ht=>by
  split at ht
  ·omega
  ·split at ht
   ·omega
   ·cases ht
 dom:=fun i e he=>by rw[hM i] at he;cases he
 wf:=fun i e he=>by rw[hM i] at he;cases he
 few:=hf
 Tu:=fun b i hb=>by
  rcases hb with hb|hb|hb
  all_goals
   split at hb
   ·cases hb
   ·split at hb
    ·cases hb
    ·cases hb
theorem iA.a0B {P:Program}{K T E:TypeId}{w:World}{B n c:Nat}{p:Int->Option Nat}(h:iA P K w B p n c)(hK:P.underlying K=some (.int .i64))(hT:P.underlying T=some (.map K E))(hn:n<maxLen){k:Int}(hk:(Lit.int .i64 k).wf=true)(b:Nat)(hb:p k=none):
  ∃w',(Instr.mapUpdate T (.map (some B)) (.int .i64 k) (aj b)).run P w=.ok () w'/\iA P K w' B (fun i=>if i=k then some b else p i) (n+1) (c+1)/\w.mapTurned w' B:=by
 obtain⟨D,h1,h2,h3⟩:=h;obtain⟨w',r0,r1,r2⟩:=h1.store (int_keyed hK) hT hn (keyOf_int_mk hK hk) (Ee b);refine⟨w',r0,⟨_,r1,?_,fun i=>?_⟩,r2⟩
 ·have hh:Maps.has D (.int .i64 k)=false:=by rw[(h3 k).1,hb];rfl
  rw[size_put (h1.tidy (int_keyed hK)),hh,h2];rfl
 ·by_cases hi:i=k
  ·subst hi;simp only[if_pos];exact⟨has_put_same h1.isMap (yY i) _,fun b' hb' zd=>by cases hb';exact atKey_put_same h1.isMap (yY i) _ _⟩
  ·simp only[if_neg hi];have hne:(Lit.int .i64 i)≠(Lit.int .i64 k):=fun e=>hi (by cases e;rfl);exact⟨(has_put_other hne _).trans (h3 i).1,fun b' hb' zd=>(atKey_put_other hne _ _).trans ((h3 i).2 b' hb' zd)⟩
def CS5 (N b:Nat)(nm:Bs)(va:Value)(pr:Int)(vk:Value)(w:World):Prop:=w.cell? (ag (N+1) 0)=some (.map (some N))/\w.cell? (ag b 0)=some (.string ⟨nm.toArray⟩)/\w.cell? (ag b 1)=some va/\w.cell? (ag b 2)=some (.int .i64 pr)/\w.cell? (ag b 3)=some vk
theorem CS5.keep {N b:Nat}{nm:Bs}{va:Value}{pr:Int}{vk:Value}{w w':World}(h:CS5 N b nm va pr vk w)(hb:Below w.heap.size w w'):CS5 N b nm va pr vk w':=by
 obtain⟨h1,h2,h3,h4,h5⟩:=h;exact⟨(hb.cell (ax h1)).trans h1,(hb.cell (ax h2)).trans h2,(hb.cell (ax h3)).trans h3,(hb.cell (ax h4)).trans h4,(hb.cell (ax h5)).trans h5⟩
theorem Kl {P:Program}{k:TypeId}{R:Value->Option (DataW Unit×List MemPlace)}{w w':World}{b r n:Nat}{D:DataW Unit}{left:Lit->Bool}{cnt:Nat}(h:w.ranges P k R b r n D left cnt)(hb:w'.heap[b]? =w.heap[b]?)(hr:w'.heap[r]? =w.heap[r]?):w'.ranges P k R b r n D left cnt:=by
 obtain⟨es,cl,si,se,c0,h1,h2,h3,h4,h5,h6⟩:=h;exact⟨es,cl,si,se,c0,hb.trans h1,h2,h3,h4,hr.trans h5,h6⟩
theorem acS (v:Value)(y:DataW Unit×List MemPlace)(h:rZ v=some y):∃a:Option Addr,v=.pointer a:=by
 cases v<;>try cases h
 exact⟨_,rfl⟩
theorem Sm {B:Nat}{tg:cz}{W:World}{DB MB:Nat}{p:Int->Option Nat}{M:Dm}{nx c:Nat}(h:bG B tg W DB MB p M nx c)(hC:Cd M c)(hK:a8r M):
  ak 28 #[aj DB] W fun e w'=>Below W.heap.size W w'/\∃DB' MB' uF p',e=.returned (aj DB')/\bG W.heap.size uF w' DB' MB' p' M nx c:=by
 have hmm:=@run_makeMap prog;obtain⟨D,hown,hsz,hD⟩:=id h.map;have d0:=h.d0;have d1:=h.d1;have e1:((W.alloc (.map #[] 0)).alloc (.cells #[.map (some W.heap.size),.int .i64 nx] 85)).heap.size=W.heap.size+1+1:=by simp
 have b2:Below W.heap.size W ((W.alloc (.map #[] 0)).alloc (.cells #[.map (some W.heap.size),.int .i64 nx] 85)):=((Below.refl _ _).alloc Nat.le.refl _).alloc (by simp) _;have hown2:=(hown.alloc (.map #[] 0)).alloc (.cells #[.map (some W.heap.size),.int .i64 nx] 85);have d1a:=((aW W (.map #[] 0)).cell (ax d1)).trans d1;have d0a:=(b2.cell (ax d0)).trans d0;go_enter func28,ntmps28;go_wp2_with(first
  |(at_range;refine wpList_range_own _ rfl _ 83 rfl 3 86 (int_keyed underlying3) underlying83 rZ MB nx D rfl hown2 ?_;intro w0 hrg0 hg0 hs0)
  |go_in)
 go_frame
 rw[e1] at hrg0 hs0⊢
 go_loopw [4] (fun _ wr=>∃(left:Lit->Bool) (cnt:Nat) (uF:cz) (p':Int->Option Nat) (c':Nat),wr.ranges prog 3 rZ MB (W.heap.size+1+1) nx D left cnt/\(∀z,left z=true->Maps.has D z=true)/\bG W.heap.size uF wr (W.heap.size+1) W.heap.size p' (nM M left) nx c'/\Cd (nM M left) c'/\uF (W.heap.size+1+1)=none/\iA prog 3 wr W.heap.size p' c' c'/\Below W.heap.size W wr)
  (fun _ wr=>wr.rangeLeft MB (W.heap.size+1+1))
 case atStart=>
  have hn0:∀i,nM M (Maps.has D) i=none:=fun i=>by
   unfold nM;split
   ·rfl
   ·next hh=>
    cases hm:M i with
    |none=>rfl
    |some e=>
     obtain⟨b,va,vk,hp, -⟩:=h.els i e hm;rw[(hD i).1,hp] at hh;exact absurd rfl hh
  have k1:w0.heap[W.heap.size+1]? =some (.cells #[.map (some W.heap.size),.int .i64 nx] 85):=by
   rw[hg0.block _ (by rw[e1];omega) (by simp)];have:=dh (W.alloc (.map #[] 0)) #[.map (some W.heap.size),.int .i64 nx] 85;simpa using this
  have pm:=((iA.made W prog 3).kept (World.grownBy_alloc _ (.cells #[.map (some W.heap.size),.int .i64 nx] 85) none) (by simp)).kept hg0 (by simp);exact⟨_,_,_,_,0,hrg0,fun z hz=>hz,Sl k1 pm hn0 h.few (by omega),⟨[],List.nodup_nil,rfl,fun x=>by simp[hn0 x]⟩,by rw[if_neg (by omega),if_neg (by omega)],pm,b2.grown hg0 (by rw[e1];omega) (fun j hj=>by cases hj)⟩
 case round=>
  obtain⟨left,cnt,uF,p',c',hrg,hlh,hd,hcd,htn,hpm,hb⟩:=hrel;go_wp2_with(first
   |(at_next;refine wpList_next_ranges _ rfl _ rfl 3 (int_keyed underlying3) rZ (Value.int .i64) Value.pointer (fun key kl hkey=>by obtain⟨x,rfl,_⟩:=Maps.keyOf_int_inv underlying3 hkey;exact⟨x,rfl⟩) acS MB (W.heap.size+1+1) nx D left cnt rfl hrg ?_ ?_)
   |go_in)
  ·intro hc0 hl0;go_wp2_with fail;go_ret;have he:nM M left=M:=by
    funext i;unfold nM;rw[hl0,if_neg (by simp)]
   rw[he] at hd hcd;obtain rfl:=hcd.uniq hC;exact⟨hb,_,_,uF,p',rfl,hd⟩
  ·intro x ca kl y1 y2 w1 cnt1 hkey hlx hv hat hrg1 hlt hg1 hs1 hen;obtain⟨k,ek,ekl,hwk⟩:=Maps.keyOf_int_inv underlying3 hkey;cases ek;subst ekl;have hpk:(p x).isSome=true:=by rw[<- (hD x).1];exact hlh _ hlx
   obtain⟨b,hpb⟩:=Option.isSome_iff_exists.1 hpk;have hy1:=hat (.map []);rw[(hD x).2 b hpb] at hy1;subst hy1;have hca:=Jh hv;cases hca;obtain⟨e,hMx⟩:∃e,M x=some e:=by
    cases hm:M x with
    |none=>rw[h.non x hm] at hpb;cases hpb
    |some e=>exact⟨e,rfl⟩
   obtain⟨b',va,vk,a8t,he⟩:=h.els x e hMx;rw[hpb] at a8t;cases a8t;obtain⟨hk1,hk2,hk3⟩:=hK x e hMx;have hdom:=h.dom x e hMx;have hwf:=h.wf x e hMx;have hb1:Below W.heap.size W w1:=hb.grown hg1 hb.size (fun j hj=>by cases hj;omega);have hr1:∀j,j<wr.heap.size->j≠W.heap.size+1+1->w1.heap[j]? =wr.heap[j]? :=fun j hj hn=>hg1.block j hj (fun e1=>hn (Option.some.inj e1));have hd1:bG W.heap.size uF w1 (W.heap.size+1) W.heap.size p' (nM M left) nx c':=hd.turn (fun g t ht=>hr1 g (hd.low g t ht).2 (fun e1=>by rw[e1,htn] at ht;cases ht)) (by omega);have a8u:iA prog 3 w1 W.heap.size p' c' c':=hpm.same (hr1 _ hpm.lt (by omega));have hno:nM M left x=none:=by unfold nM;rw[hlx];rfl
   have hcc:c'+1<=c:=hcd.a3A hC (fun i f hf=>by unfold nM at hf;split at hf;cases hf;exact⟨f,hf⟩) hno ⟨e,hMx⟩;have hcn:=h.map.size_le;obtain⟨ova,kva,hva⟩:=aI he.ats;obtain⟨ovk,kvk,hvk⟩:=aI he.kids;subst hva hvk;have hS:CS5 W.heap.size b e.name (.slice ova e.ats.length kva) e.parent (.slice ovk e.kids.length kvk) w1.drew:=⟨hd1.d0,(hb1.cell (ax he.c0)).trans he.c0,(hb1.cell (ax he.c1)).trans he.c1,(hb1.cell (ax he.c2)).trans he.c2,(hb1.cell (ax he.c3)).trans he.c3⟩;have CA:=Mk w1.drew _ e.ats (Cf (aK he.ats (below_drewN hb1 1)) hk3) hk1;have CI:=fun V (hV:Below W.heap.size W V)=>VW V _ e.kids (aK he.kids hV) hk2;have HB1:Hid (Below W.heap.size W w1):=hb1;have HHE:Hid (yf B tg W x b e (.slice ova e.ats.length kva) (.slice ovk e.kids.length kvk)):=he;clear hb1 he hd hpm hr1 hat;go_upto_region 5 with fail;refine BL (CS5 W.heap.size b e.name (.slice ova e.ats.length kva) e.parent (.slice ovk e.kids.length kvk)) 25 (by kernel_rfl) ?_;refine aR (v:=?v0) 0 rfl (by kernel_rfl) (by kernel_rfl) (by kernel_rfl) (by kernel_rfl) (fun _ _ _ h=>h) hS (.inl ⟨rfl,fun w hw=>?hy0⟩) ?hr0
   case hy0=>obtain⟨g1,g2,g3,g4,g5⟩:=hw;go_simp;try with_reducible rfl
   simp only[Act.put,List.setIfInBounds_toArray];refine aR (v:=?v1) 1 rfl (by kernel_rfl) (by kernel_rfl) (by kernel_rfl) (by kernel_rfl) (fun _ _ _ h=>h) hS (.inl ⟨rfl,fun w hw=>?hy1⟩) ?hr1
   case hy1=>obtain⟨g1,g2,g3,g4,g5⟩:=hw;go_simp;try with_reducible rfl
   simp only[Act.put];refine aR (v:=?v2) 2 rfl (by kernel_rfl) (by kernel_rfl) (by kernel_rfl) (by kernel_rfl) (fun _ _ _ h=>h) hS (.inl ⟨rfl,fun w hw=>?hy2⟩) ?hr2
   case hy2=>obtain⟨g1,g2,g3,g4,g5⟩:=hw;go_simp;try with_reducible rfl
   simp only[Act.put];refine aR (v:=?v3) 3 rfl (by kernel_rfl) (by kernel_rfl) (by kernel_rfl) (by kernel_rfl) (fun _ _ _ h=>h) hS (.inl ⟨rfl,fun w hw=>?hy3⟩) ?hr3
   case hy3=>obtain⟨g1,g2,g3,g4,g5⟩:=hw;go_simp;try with_reducible rfl
   simp only[Act.put];refine aR (v:=?v4) 4 rfl (by kernel_rfl) (by kernel_rfl) (by kernel_rfl) (by kernel_rfl) (fun _ _ _ h=>h) hS (.inl ⟨rfl,fun w hw=>?hy4⟩) ?hr4
   case hy4=>obtain⟨g1,g2,g3,g4,g5⟩:=hw;go_simp;try with_reducible rfl
   simp only[Act.put];refine aR (v:=?v5) 5 rfl (by kernel_rfl) (by kernel_rfl) (by kernel_rfl) (by kernel_rfl) (fun _ _ _ h=>h) hS (.inl ⟨rfl,fun w hw=>?hy5⟩) ?hr5
   case hy5=>obtain⟨g1,g2,g3,g4,g5⟩:=hw;go_simp;try with_reducible rfl
   simp only[Act.put];refine aR (v:=?v6) 6 rfl (by kernel_rfl) (by kernel_rfl) (by kernel_rfl) (by kernel_rfl) (fun _ _ _ h=>h) hS (.inl ⟨rfl,fun w hw=>?hy6⟩) ?hr6
   case hy6=>obtain⟨g1,g2,g3,g4,g5⟩:=hw;go_simp;try with_reducible rfl
   simp only[Act.put];refine aR (v:=?v7) 7 rfl (by kernel_rfl) (by kernel_rfl) (by kernel_rfl) (by kernel_rfl) (fun _ _ _ h=>h) hS (.inl ⟨rfl,fun w hw=>?hy7⟩) ?hr7
   case hy7=>obtain⟨g1,g2,g3,g4,g5⟩:=hw;go_simp;try with_reducible rfl
   simp only[Act.put];refine aR (v:=?v8) 8 rfl (by kernel_rfl) (by kernel_rfl) (by kernel_rfl) (by kernel_rfl) (fun _ _ _ h=>h) hS (.inl ⟨rfl,fun w hw=>?hy8⟩) ?hr8
   case hy8=>obtain⟨g1,g2,g3,g4,g5⟩:=hw;go_simp;try with_reducible rfl
   simp only[Act.put];refine aR (v:=?v9) 9 rfl (by kernel_rfl) (by kernel_rfl) (by kernel_rfl) (by kernel_rfl) (fun _ _ _ h=>h) hS (.inl ⟨rfl,fun w hw=>?hy9⟩) ?hr9
   case hy9=>obtain⟨g1,g2,g3,g4,g5⟩:=hw;go_simp;try with_reducible rfl
   simp only[Act.put];refine aR (v:=?v10) 10 rfl (by kernel_rfl) (by kernel_rfl) (by kernel_rfl) (by kernel_rfl) (fun _ _ _ h=>h) hS (.inl ⟨rfl,fun w hw=>?a4c⟩) ?acu
   case a4c=>obtain⟨g1,g2,g3,g4,g5⟩:=hw;go_simp;try with_reducible rfl
   simp only[Act.put];refine aR (v:=?v11) 11 rfl (by kernel_rfl) (by kernel_rfl) (by kernel_rfl) (by kernel_rfl) (fun _ _ _ h=>h) hS (.inl ⟨rfl,fun w hw=>?a4d⟩) ?acv
   case a4d=>obtain⟨g1,g2,g3,g4,g5⟩:=hw;go_simp;try with_reducible rfl
   simp only[Act.put];refine aR (v:=?v12) 12 rfl (by kernel_rfl) (by kernel_rfl) (by kernel_rfl) (by kernel_rfl) (fun _ _ _ h=>h) hS (.inl ⟨rfl,fun w hw=>?a4e⟩) ?acw
   case a4e=>obtain⟨g1,g2,g3,g4,g5⟩:=hw;go_simp;try with_reducible rfl
   simp only[Act.put];refine aR (v:=?v14) 14 rfl (by kernel_rfl) (by kernel_rfl) (by kernel_rfl) (by kernel_rfl) (fun _ _ _ h=>h) hS (.inl ⟨rfl,fun w hw=>?a4f⟩) ?acz
   case a4f=>obtain⟨g1,g2,g3,g4,g5⟩:=hw;go_simp;try with_reducible rfl
   simp only[Act.put];refine aR (v:=?v15) 15 rfl (by kernel_rfl) (by kernel_rfl) (by kernel_rfl) (by kernel_rfl) (fun _ _ _ h=>h) hS (.inl ⟨rfl,fun w hw=>?a4g⟩) ?acA
   case a4g=>obtain⟨g1,g2,g3,g4,g5⟩:=hw;go_simp;try with_reducible rfl
   simp only[Act.put];refine aR (v:=?v16) 16 rfl (by kernel_rfl) (by kernel_rfl) (by kernel_rfl) (by kernel_rfl) (fun _ _ _ h=>h) hS (.inl ⟨rfl,fun w hw=>?a4h⟩) ?acB
   case a4h=>obtain⟨g1,g2,g3,g4,g5⟩:=hw;go_simp;try with_reducible rfl
   simp only[Act.put];refine aR (v:=?v17) 17 rfl (by kernel_rfl) (by kernel_rfl) (by kernel_rfl) (by kernel_rfl) (fun _ _ _ h=>h) hS (.inl ⟨rfl,fun w hw=>?a4i⟩) ?acC
   case a4i=>obtain⟨g1,g2,g3,g4,g5⟩:=hw;go_simp;try with_reducible rfl
   simp only[Act.put];refine aR (v:=?v18) 18 rfl (by kernel_rfl) (by kernel_rfl) (by kernel_rfl) (by kernel_rfl) (fun _ _ _ h=>h) hS (.inl ⟨rfl,fun w hw=>?a4j⟩) ?acD
   case a4j=>obtain⟨g1,g2,g3,g4,g5⟩:=hw;go_simp;try with_reducible rfl
   simp only[Act.put];refine aR (v:=?v19) 19 rfl (by kernel_rfl) (by kernel_rfl) (by kernel_rfl) (by kernel_rfl) (fun _ _ _ h=>h) hS (.inl ⟨rfl,fun w hw=>?acT⟩) ?ajd
   case acT=>obtain⟨g1,g2,g3,g4,g5⟩:=hw;go_simp;try with_reducible rfl
   simp only[Act.put];refine aR (v:=?v20) 20 rfl (by kernel_rfl) (by kernel_rfl) (by kernel_rfl) (by kernel_rfl) (fun _ _ _ h=>h) hS (.inl ⟨rfl,fun w hw=>?a4k⟩) ?acE
   case a4k=>obtain⟨g1,g2,g3,g4,g5⟩:=hw;go_simp;try with_reducible rfl
   simp only[Act.put];refine aR (v:=?v21) 21 rfl (by kernel_rfl) (by kernel_rfl) (by kernel_rfl) (by kernel_rfl) (fun _ _ _ h=>h) hS (.inl ⟨rfl,fun w hw=>?a4l⟩) ?acF
   case a4l=>obtain⟨g1,g2,g3,g4,g5⟩:=hw;go_simp;try with_reducible rfl
   simp only[Act.put];refine jv 13 (by kernel_rfl) rfl (fun K hK=>?_);go_simp;go_wp2_with(go_at_call 42;refine CA.mono ?_;rintro e2 w2 ⟨o2,n2,k2,rfl,Cs,b2'⟩);have b12:Below w1.heap.size w1 w2:=⟨b2'.os,b2'.tape,b2'.output,b2'.size,b2'.block⟩;have hS2:=hS.keep b2';refine hK.out _ _ (fun _=>hS2) ?_;clear hK;have CI2:=CI w2 (az HB1.out b12);refine jv 22 (by kernel_rfl) rfl (fun K hK=>?_);go_simp;go_wp2_with(go_at_call 56;refine CI2.mono ?_;rintro e3 w3 ⟨o3,k3,rfl,yK,sj⟩);have hS3:=hS2.keep sj;refine hK.out _ _ (fun _=>hS3) ?_;clear hK;have b13:=az b12 sj;refine jv 23 (by kernel_rfl) rfl (fun K hK=>?_);go_simp;refine hK.out _ _ (fun _=>hS3) ?_;clear hK;refine jv 24 (by kernel_rfl) rfl (fun K hK=>?_);go_simp;have hS4:=hS3.keep (aW w3 (.cells #[.string ⟨e.name.toArray⟩,.slice o2 n2 k2,.int .i64 e.parent,.slice o3 e.kids.length k3] 90));refine hK.out _ _ (fun _=>hS4) ?_;clear hK;have b14:=az b13 (aW w3 (.cells #[.string ⟨e.name.toArray⟩,.slice o2 n2 k2,.int .i64 e.parent,.slice o3 e.kids.length k3] 90));have acU:=a8u.same (b14.block _ a8u.lt);obtain⟨w5,hrun,a8w,htu⟩:=iA.a0B (T:=83) acU underlying3 underlying83 (by have:=h.few;simp only[maxLen];omega) hwk w3.heap.size (hd1.non x hno);refine jv 25 (by kernel_rfl) rfl (fun K hK=>?_);go_simp;refine hK.out _ _ (fun h=>absurd rfl h) ?_;clear hK;refine Nl (by kernel_rfl) ?_ _;have hrl:W.heap.size+1+1<w1.heap.size:=by
    obtain⟨es,cl,si,se,c0, -, -, -, -,h5, -⟩:=hrg1;exact aD h5
   have hMB:MB<W.heap.size:=hown.lt;have he:=HHE.out;have sz4:=b14.size;have e5:∀j,j≠W.heap.size->w5.heap[j]? =(w3.alloc (.cells #[.string ⟨e.name.toArray⟩,.slice o2 n2 k2,.int .i64 e.parent,.slice o3 e.kids.length k3] 90)).heap[j]? :=fun j hj=>by
    rcases Nat.lt_or_ge j (w3.alloc (.cells #[.string ⟨e.name.toArray⟩,.slice o2 n2 k2,.int .i64 e.parent,.slice o3 e.kids.length k3] 90)).heap.size with h1|h1
    ·exact htu.grown.block j h1 (fun e1=>hj (Option.some.inj e1))
    ·obtain⟨es,cl,es',cl',h2,h3⟩:=htu;rw[h3,Array.getElem?_eq_none h1,Array.getElem?_eq_none];simpa[ChangeMaps.setBlock] using h1
   have e15:∀j,j<w1.heap.size->j≠W.heap.size->w5.heap[j]? =w1.heap[j]? :=fun j hj hn=>(e5 j hn).trans (b14.block j hj);have RG:w5.ranges prog 3 rZ MB (W.heap.size+1+1) nx D (fun z=>left z && !z.sameKey (.int .i64 x)) cnt1:=Kl hrg1 (e15 MB (by omega) (by omega)) (e15 _ hrl (by omega));have Vj:=aK Cs (az sj (aW w3 (.cells #[.string ⟨e.name.toArray⟩,.slice o2 n2 k2,.int .i64 e.parent,.slice o3 e.kids.length k3] 90)));have acV:=aK yK (aW w3 (.cells #[.string ⟨e.name.toArray⟩,.slice o2 n2 k2,.int .i64 e.parent,.slice o3 e.kids.length k3] 90));have l2:∀g,(Value.slice o2 n2 k2).ownBlock=some g->w1.heap.size<=g/\g<w2.heap.size:=fun g hg=>Cs.lt g hg;have l3:∀g,(Value.slice o3 e.kids.length k3).ownBlock=some g->w2.heap.size<=g/\g<w3.heap.size:=fun g hg=>yK.lt g hg;have s12:=b12.size;have s23:=sj.size;have sW:=HB1.out.size;have NE:Vd W.heap.size uF (w3.alloc (.cells #[.string ⟨e.name.toArray⟩,.slice o2 n2 k2,.int .i64 e.parent,.slice o3 e.kids.length k3] 90)) w3.heap.size e (.slice o2 n2 k2) (.slice o3 e.kids.length k3):=
    ⟨dh w3 _ _,by omega,hd1.new (by omega),eu Vj sW,fun g hg=>⟨hd1.new (l2 g hg).1,by have:=l2 g hg;omega⟩,eu acV (by omega),fun g hg=>⟨hd1.new (by have:=l3 g hg;omega),by have:=l3 g hg;omega,fun e1=>by have:=l2 g e1;have:=l3 g hg;omega⟩⟩
   have RZ:=h.few;have DW:=(hd1.below b14).a7C hdom.1 hdom.2 NE hwf (w':=w5) (a8w.mono (by omega)) e5 htu.grown.size;have hCd:=hcd.put hno e;rw[<- MX hMx] at DW hCd;have TG:lJ uF x w3.heap.size (.slice o2 n2 k2) (.slice o3 e.kids.length k3) (W.heap.size+1+1)=none:=by
    unfold lJ;rw[if_neg (by omega),if_neg (fun e1=>by have:=l2 _ e1;omega),if_neg (fun e1=>by have:=l3 _ e1;omega)];exact htn
   have FIN:Hid (_/\_/\_/\_/\_/\_):=And.intro RG (And.intro DW (And.intro hCd (And.intro TG (And.intro a8w ((HB1.out.trans (b14.mono sW)).grown htu.grown (by omega) (fun j hj=>by cases hj;exact Nat.le_refl _))))));have MEA:Hid (w5.rangeLeft MB (W.heap.size+1+1)<wr.rangeLeft MB (W.heap.size+1+1)):=(by rw[RG.left_eq,hrg.left_eq];exact hlt:w5.rangeLeft MB (W.heap.size+1+1)<wr.rangeLeft MB (W.heap.size+1+1));have HLH:∀z,(left z && !z.sameKey (.int .i64 x))=true->Maps.has D z=true:=fun z hz=>hlh z (by simp only[Bool.and_eq_true] at hz;exact hz.1);clear RG DW hCd TG NE e5 e15;go_wp2_with fail
   go_roundw
   case rel=>
    obtain⟨h1,h2,h3,h4,h5,h6⟩:=FIN.out;exact⟨_,cnt1,_,_,_,h1,HLH,h2,h3,h4,h5,h6⟩
   case measure=>exact MEA.out
end
section
open Go.RowKit
set_option maxHeartbeats 2000000
def Sn (tg:cz)(DB qo:Nat):cz:=fun x=>if x=DB then some .doc else if x=qo then none else tg x
theorem bG.home {B B':Nat}{tg:cz}{w Z:World}{DB qo MB:Nat}{p:Int->Option Nat}{M:Dm}{nx c:Nat}(h:bG B tg w qo MB p M nx c)(hB:B'<=DB)(hDB:DB<B)(hz:∀b,B<=b->Z.heap[b]? =w.heap[b]?)(hd:Z.heap[DB]? =some (.cells #[.map (some MB),aa nx] 85))(hs:w.heap.size<=Z.heap.size):bG B' (Sn tg DB qo) Z DB MB p M nx c:=by
 have hk:∀g t,tg g=some t->t≠.doc->Sn tg DB qo g=some t/\Z.heap[g]? =w.heap[g]? :=fun g t ht hn=>by
  have h1:=(h.low g t ht).1;refine⟨?_,hz g h1⟩;unfold Sn;rw[if_neg (by omega),if_neg (fun e=>by rw[e,h.jP] at ht;cases ht;exact hn rfl)];exact ht
 obtain⟨m1,m2⟩:=hk MB _ h.kF (by simp);refine⟨hd,by unfold Sn;rw[if_pos rfl],h.map.same m2,m1,fun i e he=>?_,h.non,fun b t ht=>?_,h.dom,h.wf,h.few,fun b i hb=>?_⟩
 ·obtain⟨b,va,vk,h1,h2⟩:=h.els i e he;exact⟨b,va,vk,h1,(h2.turn fun g t ht hh=>hk g t ht (by rcases hh with rfl|rfl|rfl<;>simp)).a0A (by omega)⟩
 ·unfold Sn at ht;split at ht
  ·rename_i e;subst e;exact⟨hB,aD hd⟩
  ·split at ht
   ·cases ht
   ·have:=h.low b t ht;omega
 ·refine h.Tu b i ?_;unfold Sn at hb;split at hb
  ·rcases hb with hb|hb|hb<;>cases hb
  ·split at hb
   ·rcases hb with hb|hb|hb<;>cases hb
   ·exact hb
structure Ed where
 kd:Bs
 n:Int
 m:Int
 ea:Int
 nm:Bs
 vl:Bs
abbrev zg (x:Ed):Array Value:=#[.string ⟨x.kd.toArray⟩,aa x.n,aa x.m,aa x.ea,.string ⟨x.nm.toArray⟩,.string ⟨x.vl.toArray⟩]
structure Yv (w:World)(b:Nat)(x:Ed):Prop where
 c0:w.cell? (ag b 0)=some (.string ⟨x.kd.toArray⟩)
 c1:w.cell? (ag b 1)=some (aa x.n)
 c2:w.cell? (ag b 2)=some (aa x.m)
 c3:w.cell? (ag b 3)=some (aa x.ea)
 c4:w.cell? (ag b 4)=some (.string ⟨x.nm.toArray⟩)
 c5:w.cell? (ag b 5)=some (.string ⟨x.vl.toArray⟩)
theorem Yv.of {w:World}{b:Nat}{x:Ed}{t:TypeId}(h:w.heap[b]? =some (.cells (zg x) t)):Yv w b x:=⟨aA h 0 _ rfl,aA h 1 _ rfl,aA h 2 _ rfl,aA h 3 _ rfl,aA h 4 _ rfl,aA h 5 _ rfl⟩
def uC:Bs:=[115,104,101,101,116]
theorem a4v {a b:Bs}(h:a≠b):(a==b)=false:=beq_eq_false_iff_ne.2 h
theorem Nw (x:Ed)(hx:x.kd≠uC)(o:Option Addr)(n cp:Nat)(W:World):
  ak 30 #[.slice o n cp,.agg (zg x)] W fun e w'=>e=.returned (.tuple #[.slice o n cp,.nilIface])/\Below W.heap.size W w':=by
 have hk:=Yv.of (dh W (zg x) 45);have h0:=hk.c0;have hn:=a4v hx;unfold uC at hn;clear hk;go_enter func30,ntmps30;go_wp2_with fail
 go_ret2
 exact⟨rfl,aW _ _⟩
theorem dP.cl {B:Nat}{tg:cz}{W:World}{DB MB:Nat}{p:Int->Option Nat}{M:Dm}{nx c:Nat}{r:Int->Nat}(h:dP M)(hd:gN B tg W DB MB p M nx c r):a8r M:=fun i e he=>by
 obtain⟨-,h2,h3⟩:=h i e he;have h4:=hd.few he;refine⟨by omega,by omega,fun a ha=>?_⟩;have h5:=Aq (h3.1 a ha).1;have h6:=nD (h3.1 a ha).2;simp only[maxLen];omega
end
end Go.Proofs.YtjfiehbcamfdfaaGreatDoor
