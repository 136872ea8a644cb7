/- Parts of the proof. -/
import Derived.Test.YtecneflbncjhpaaGreatDoorQp34
namespace Go.Proofs.YtecneflbncjhpaaGreatDoor
open Go.Proofs.Tryz
set_option maxHeartbeats 8000000
section
open Go.RowKit Go.Maps
set_option maxRecDepth 20000
def aaz (M:Dm):Prop:=∀i e,M i=some e->e.ats.length<=1000000/\e.kids.length<=1000000/\∀a∈e.ats,a.1.length<=maxLen/\a.2.length<=maxLen
theorem Dx {w:ag}{B:Nat}{v:ah}{l:List (Bs×Bs)}(h:w.ownsRow B 100 2 v l.length (bJ l))(hl:∀a∈l,a.1.length<=maxLen/\a.2.length<=maxLen):mY w v l:=by
 obtain⟨o,cap,hv,hc,hm,hn,hg⟩:=dL h;refine⟨o,cap,hv,hc,hm,hn,fun i x hx=>?_⟩;obtain⟨h0,h1⟩:=vo l i x hx;obtain⟨g,hg1,c0⟩:=dF h _ _ h0;obtain⟨g',hg2,c1⟩:=dF h _ _ h1;rw[hg1] at hg2;cases hg2;exact⟨g,0,hg g hg1,by simpa using c0,by simpa using c1,hl x (fV hx)⟩
theorem UU {w0:ag}{N nx:Nat}{M:Dm}(hN:w0.heap[N+1]? =some (.cells #[.map (some N),.int .i64 nx] 95))(hm:gq prog 3 w0 N (fun _=>none) 0 0)(hM:∀i,M i=none)(hf:nx<=1000000)(hz:N+1<w0.heap.size):
  aX N (fun x=>if x=N then some .map else if x=N+1 then some .doc else none) w0 (N+1) N (fun _=>none) M nx 0 where
 doc:=hN
 ji:=by rw[if_neg (by omega),if_pos rfl]
 map:=by
  obtain⟨D,h1,h2⟩:=hm;exact⟨D,h1.mono (aP _),h2⟩
 jk:=by rw[if_pos rfl]
 els:=fun i e he=>by rw[hM i] at he;cases he
 non:=fun i _=>rfl
 low:=fun b t ht=>by
  split at ht
  ·omega
  ·split at ht
   ·omega
   ·cases ht
 dom:=fun i e he=>by rw[hM i] at he;cases he
 wf:=fun i e he=>by rw[hM i] at he;cases he
 few:=hf
 Nh:=fun b i hb=>by
  rcases hb with hb|hb|hb
  all_goals
   split at hb
   ·cases hb
   ·split at hb
    ·cases hb
    ·cases hb
theorem gq.a2F {P:Program}{K T E:TypeId}{w:ag}{B n c:Nat}{p:Int->Option Nat}(h:gq P K w B p n c)(hK:P.underlying K=some (.int .i64))(hT:P.underlying T=some (.map K E))(hn:n<maxLen){k:Int}(hk:(Lit.int .i64 k).wf=true)(b:Nat)(hb:p k=none):
  ∃w',(Instr.mapUpdate T (.map (some B)) (.int .i64 k) (ay b)).run P w=.ok () w'/\gq P K w' B (fun i=>if i=k then some b else p i) (n+1) (c+1)/\w.mapTurned w' B:=by
 obtain⟨D,h1,h2,h3⟩:=h;obtain⟨w',r0,r1,r2⟩:=h1.store (int_keyed hK) hT hn (keyOf_int_mk hK hk) (FQ b);refine⟨w',r0,⟨_,r1,?_,fun i=>?_⟩,r2⟩
 ·have hh:Maps.has D (.int .i64 k)=false:=by rw[(h3 k).1,hb];rfl
  rw[size_put (h1.tidy (int_keyed hK)),hh,h2];rfl
 ·by_cases hi:i=k
  ·subst hi;simp only[if_pos];exact⟨has_put_same h1.isMap (A9 i) _,fun b' hb' zd=>by cases hb';exact atKey_put_same h1.isMap (A9 i) _ _⟩
  ·simp only[if_neg hi];have hne:(Lit.int .i64 i)≠(Lit.int .i64 k):=fun e=>hi (by cases e;rfl);exact⟨(has_put_other hne _).trans (h3 i).1,fun b' hb' zd=>(atKey_put_other hne _ _).trans ((h3 i).2 b' hb' zd)⟩
def CS5 (N b:Nat)(nm:Bs)(va:ah)(pr:Int)(vk:ah)(w:ag):Prop:=w.cell? (ak (N+1) 0)=some (.map (some N))/\w.cell? (ak b 0)=some (.string ⟨nm.toArray⟩)/\w.cell? (ak b 1)=some va/\w.cell? (ak b 2)=some (.int .i64 pr)/\w.cell? (ak b 3)=some vk
theorem CS5.keep {N b:Nat}{nm:Bs}{va:ah}{pr:Int}{vk:ah}{w w':ag}(h:CS5 N b nm va pr vk w)(hb:Below w.heap.size w w'):CS5 N b nm va pr vk w':=by
 obtain⟨h1,h2,h3,h4,h5⟩:=h;exact⟨(hb.cell (az h1)).trans h1,(hb.cell (az h2)).trans h2,(hb.cell (az h3)).trans h3,(hb.cell (az h4)).trans h4,(hb.cell (az h5)).trans h5⟩
theorem MH {P:Program}{k:TypeId}{R:ah->Option (DataW Unit×List MemPlace)}{w w':ag}{b r n:Nat}{D:DataW Unit}{left:Lit->Bool}{cnt:Nat}(h:w.ranges P k R b r n D left cnt)(hb:w'.heap[b]? =w.heap[b]?)(hr:w'.heap[r]? =w.heap[r]?):w'.ranges P k R b r n D left cnt:=by
 obtain⟨es,cl,si,se,c0,h1,h2,h3,h4,h5,h6⟩:=h;exact⟨es,cl,si,se,c0,hb.trans h1,h2,h3,h4,hr.trans h5,h6⟩
theorem afb (v:ah)(y:DataW Unit×List MemPlace)(h:qH v=some y):∃a:Option Addr,v=.pointer a:=by
 cases v<;>try cases h
 exact⟨_,rfl⟩
theorem UW {B:Nat}{tg:bP}{W:ag}{DB MB:Nat}{p:Int->Option Nat}{M:Dm}{nx c:Nat}(h:aX B tg W DB MB p M nx c)(hC:Cd M c)(hK:aaz M):
  au 103 #[ay DB] W fun e w'=>Below W.heap.size W w'/\∃Nn MB' kR p',e=.returned (ay Nn)/\aX W.heap.size kR w' Nn MB' p' M nx c:=by
 have hmm:=@run_makeMap prog;obtain⟨D,hown,hsz,hD⟩:=id h.map;have d0:=h.d0;have d1:=h.d1;have e1:((W.alloc (.map #[] 0)).alloc (.cells #[.map (some W.heap.size),.int .i64 nx] 95)).heap.size=W.heap.size+1+1:=by simp
 have b2:Below W.heap.size W ((W.alloc (.map #[] 0)).alloc (.cells #[.map (some W.heap.size),.int .i64 nx] 95)):=((aG _ _).alloc ai _).alloc (by simp) _;have hown2:=(hown.alloc (.map #[] 0)).alloc (.cells #[.map (some W.heap.size),.int .i64 nx] 95);have d1a:=((bT W (.map #[] 0)).cell (az d1)).trans d1;have d0a:=(b2.cell (az d0)).trans d0;go_enter func103,ntmps103;go_wp2_with(first
  |(at_range;refine wpList_range_own _ rfl _ 93 rfl 3 97 (int_keyed underlying3) underlying93 qH MB nx D rfl hown2 ?_;intro w0 hrg0 hg0 hs0)
  |go_in)
 go_frame
 rw[e1] at hrg0 hs0⊢
 go_loopw [4] (fun _ wr=>∃(left:Lit->Bool) (cnt:Nat) (kR:bP) (p':Int->Option Nat) (c':Nat),wr.ranges prog 3 qH MB (W.heap.size+1+1) nx D left cnt/\(∀z,left z=true->Maps.has D z=true)/\aX W.heap.size kR wr (W.heap.size+1) W.heap.size p' (oz M left) nx c'/\Cd (oz M left) c'/\kR (W.heap.size+1+1)=none/\gq prog 3 wr W.heap.size p' c' c'/\Below W.heap.size W wr)
  (fun _ wr=>wr.rangeLeft MB (W.heap.size+1+1))
 case atStart=>
  have hn0:∀i,oz M (Maps.has D) i=none:=fun i=>by
   unfold oz;split
   ·rfl
   ·next hh=>
    cases hm:M i with
    |none=>rfl
    |some e=>
     obtain⟨b,va,vk,hp, -⟩:=h.els i e hm;rw[(hD i).1,hp] at hh;exact absurd rfl hh
  have k1:w0.heap[W.heap.size+1]? =some (.cells #[.map (some W.heap.size),.int .i64 nx] 95):=by
   rw[hg0.block _ (by rw[e1];omega) (by simp)];have:=dw (W.alloc (.map #[] 0)) #[.map (some W.heap.size),.int .i64 nx] 95;simpa using this
  have pm:=((gq.made W prog 3).kept (World.grownBy_alloc _ (.cells #[.map (some W.heap.size),.int .i64 nx] 95) none) (by simp)).kept hg0 (by simp);exact⟨_,_,_,_,0,hrg0,fun z hz=>hz,UU k1 pm hn0 h.few (by omega),⟨[],List.nodup_nil,rfl,fun x=>by simp[hn0 x]⟩,by rw[if_neg (by omega),if_neg (by omega)],pm,b2.grown hg0 (by rw[e1];omega) (fun j hj=>by cases hj)⟩
 case round=>
  obtain⟨left,cnt,kR,p',c',hrg,hlh,hd,hcd,htn,hpm,hb⟩:=hrel;go_wp2_with(first
   |(at_next;refine wpList_next_ranges _ rfl _ rfl 3 (int_keyed underlying3) qH (Value.int .i64) Value.pointer (fun key kl hkey=>by obtain⟨x,rfl,_⟩:=Maps.keyOf_int_inv underlying3 hkey;exact⟨x,rfl⟩) afb MB (W.heap.size+1+1) nx D left cnt rfl hrg ?_ ?_)
   |go_in)
  ·intro hc0 hl0;go_wp2_with fail;go_ret;have he:oz M left=M:=by
    funext i;unfold oz;rw[hl0,if_neg (by simp)]
   rw[he] at hd hcd;obtain rfl:=hcd.uniq hC;exact⟨hb,_,_,kR,p',rfl,hd⟩
  ·intro x ca kl y1 y2 w1 cnt1 hkey hlx hv hat hrg1 hlt hg1 hs1 hen;obtain⟨k,ek,ekl,hwk⟩:=Maps.keyOf_int_inv underlying3 hkey;cases ek;subst ekl;have hpk:(p x).isSome=true:=by rw[<- (hD x).1];exact hlh _ hlx
   obtain⟨b,hpb⟩:=Option.isSome_iff_exists.1 hpk;have hy1:=hat (.map []);rw[(hD x).2 b hpb] at hy1;subst hy1;have hca:=wK hv;cases hca;obtain⟨e,hMx⟩:∃e,M x=some e:=by
    cases hm:M x with
    |none=>rw[h.non x hm] at hpb;cases hpb
    |some e=>exact⟨e,rfl⟩
   obtain⟨b',va,vk,aaB,he⟩:=h.els x e hMx;rw[hpb] at aaB;cases aaB;obtain⟨hk1,hk2,hk3⟩:=hK x e hMx;have hdom:=h.dom x e hMx;have hwf:=h.wf x e hMx;have hb1:Below W.heap.size W w1:=hb.grown hg1 hb.size (fun j hj=>by cases hj;omega);have hr1:∀j,j<wr.heap.size->j≠W.heap.size+1+1->w1.heap[j]? =wr.heap[j]? :=fun j hj hn=>hg1.block j hj (fun e1=>hn (dP e1));have hd1:aX W.heap.size kR w1 (W.heap.size+1) W.heap.size p' (oz M left) nx c':=hd.turn (fun g t ht=>hr1 g (hd.low g t ht).2 (fun e1=>by rw[e1,htn] at ht;cases ht)) (by omega);have aaC:gq prog 3 w1 W.heap.size p' c' c':=hpm.same (hr1 _ hpm.lt (by omega));have hno:oz M left x=none:=by unfold oz;rw[hlx];rfl
   have hcc:c'+1<=c:=hcd.a5W hC (fun i f hf=>by unfold oz at hf;split at hf;cases hf;exact⟨f,hf⟩) hno ⟨e,hMx⟩;have hcn:=h.map.size_le;obtain⟨ova,kva,hva⟩:=aM he.ats;obtain⟨ovk,kvk,hvk⟩:=aM he.kids;subst hva hvk;have hS:CS5 W.heap.size b e.name (.slice ova e.ats.length kva) e.parent (.slice ovk e.kids.length kvk) w1.drew:=⟨hd1.d0,(hb1.cell (az he.c0)).trans he.c0,(hb1.cell (az he.c1)).trans he.c1,(hb1.cell (az he.c2)).trans he.c2,(hb1.cell (az he.c3)).trans he.c3⟩;have CA:=Oe w1.drew _ e.ats (Dx (aQ he.ats (below_drewN hb1 1)) hk3) hk1;have CI:=fun V (hV:Below W.heap.size W V)=>Ye V _ e.kids (aQ he.kids hV) hk2;have HB1:=aj hb1;have HHE:=aj he;clear hb1 he hd hpm hr1 hat;go_upto_region 5 with fail;refine Dn (CS5 W.heap.size b e.name (.slice ova e.ats.length kva) e.parent (.slice ovk e.kids.length kvk)) 25 (by kernel_rfl) ?_;refine bG (v:=?v0) 0 rfl (by kernel_rfl) (by kernel_rfl) (by kernel_rfl) (by kernel_rfl) (fun _ _ _ h=>h) hS (.inl ⟨rfl,fun w hw=>?hy0⟩) ?hr0
   case hy0=>obtain⟨g1,g2,g3,g4,g5⟩:=hw;go_simp;try with_reducible rfl
   simp only[Act.put,List.setIfInBounds_toArray];refine bG (v:=?v1) 1 rfl (by kernel_rfl) (by kernel_rfl) (by kernel_rfl) (by kernel_rfl) (fun _ _ _ h=>h) hS (.inl ⟨rfl,fun w hw=>?hy1⟩) ?hr1
   case hy1=>obtain⟨g1,g2,g3,g4,g5⟩:=hw;go_simp;try with_reducible rfl
   simp only[Act.put];refine bG (v:=?v2) 2 rfl (by kernel_rfl) (by kernel_rfl) (by kernel_rfl) (by kernel_rfl) (fun _ _ _ h=>h) hS (.inl ⟨rfl,fun w hw=>?hy2⟩) ?hr2
   case hy2=>obtain⟨g1,g2,g3,g4,g5⟩:=hw;go_simp;try with_reducible rfl
   simp only[Act.put];refine bG (v:=?v3) 3 rfl (by kernel_rfl) (by kernel_rfl) (by kernel_rfl) (by kernel_rfl) (fun _ _ _ h=>h) hS (.inl ⟨rfl,fun w hw=>?hy3⟩) ?hr3
   case hy3=>obtain⟨g1,g2,g3,g4,g5⟩:=hw;go_simp;try with_reducible rfl
   simp only[Act.put];refine bG (v:=?v4) 4 rfl (by kernel_rfl) (by kernel_rfl) (by kernel_rfl) (by kernel_rfl) (fun _ _ _ h=>h) hS (.inl ⟨rfl,fun w hw=>?hy4⟩) ?hr4
   case hy4=>obtain⟨g1,g2,g3,g4,g5⟩:=hw;go_simp;try with_reducible rfl
   simp only[Act.put];refine bG (v:=?v5) 5 rfl (by kernel_rfl) (by kernel_rfl) (by kernel_rfl) (by kernel_rfl) (fun _ _ _ h=>h) hS (.inl ⟨rfl,fun w hw=>?hy5⟩) ?hr5
   case hy5=>obtain⟨g1,g2,g3,g4,g5⟩:=hw;go_simp;try with_reducible rfl
   simp only[Act.put];refine bG (v:=?v6) 6 rfl (by kernel_rfl) (by kernel_rfl) (by kernel_rfl) (by kernel_rfl) (fun _ _ _ h=>h) hS (.inl ⟨rfl,fun w hw=>?hy6⟩) ?hr6
   case hy6=>obtain⟨g1,g2,g3,g4,g5⟩:=hw;go_simp;try with_reducible rfl
   simp only[Act.put];refine bG (v:=?v7) 7 rfl (by kernel_rfl) (by kernel_rfl) (by kernel_rfl) (by kernel_rfl) (fun _ _ _ h=>h) hS (.inl ⟨rfl,fun w hw=>?hy7⟩) ?hr7
   case hy7=>obtain⟨g1,g2,g3,g4,g5⟩:=hw;go_simp;try with_reducible rfl
   simp only[Act.put];refine bG (v:=?v8) 8 rfl (by kernel_rfl) (by kernel_rfl) (by kernel_rfl) (by kernel_rfl) (fun _ _ _ h=>h) hS (.inl ⟨rfl,fun w hw=>?hy8⟩) ?hr8
   case hy8=>obtain⟨g1,g2,g3,g4,g5⟩:=hw;go_simp;try with_reducible rfl
   simp only[Act.put];refine bG (v:=?v9) 9 rfl (by kernel_rfl) (by kernel_rfl) (by kernel_rfl) (by kernel_rfl) (fun _ _ _ h=>h) hS (.inl ⟨rfl,fun w hw=>?hy9⟩) ?hr9
   case hy9=>obtain⟨g1,g2,g3,g4,g5⟩:=hw;go_simp;try with_reducible rfl
   simp only[Act.put];refine bG (v:=?v10) 10 rfl (by kernel_rfl) (by kernel_rfl) (by kernel_rfl) (by kernel_rfl) (fun _ _ _ h=>h) hS (.inl ⟨rfl,fun w hw=>?a6q⟩) ?aeO
   case a6q=>obtain⟨g1,g2,g3,g4,g5⟩:=hw;go_simp;try with_reducible rfl
   simp only[Act.put];refine bG (v:=?v11) 11 rfl (by kernel_rfl) (by kernel_rfl) (by kernel_rfl) (by kernel_rfl) (fun _ _ _ h=>h) hS (.inl ⟨rfl,fun w hw=>?a6r⟩) ?aeP
   case a6r=>obtain⟨g1,g2,g3,g4,g5⟩:=hw;go_simp;try with_reducible rfl
   simp only[Act.put];refine bG (v:=?v12) 12 rfl (by kernel_rfl) (by kernel_rfl) (by kernel_rfl) (by kernel_rfl) (fun _ _ _ h=>h) hS (.inl ⟨rfl,fun w hw=>?a6s⟩) ?aeQ
   case a6s=>obtain⟨g1,g2,g3,g4,g5⟩:=hw;go_simp;try with_reducible rfl
   simp only[Act.put];refine bG (v:=?v14) 14 rfl (by kernel_rfl) (by kernel_rfl) (by kernel_rfl) (by kernel_rfl) (fun _ _ _ h=>h) hS (.inl ⟨rfl,fun w hw=>?a6t⟩) ?aeS
   case a6t=>obtain⟨g1,g2,g3,g4,g5⟩:=hw;go_simp;try with_reducible rfl
   simp only[Act.put];refine bG (v:=?v15) 15 rfl (by kernel_rfl) (by kernel_rfl) (by kernel_rfl) (by kernel_rfl) (fun _ _ _ h=>h) hS (.inl ⟨rfl,fun w hw=>?a6u⟩) ?aeT
   case a6u=>obtain⟨g1,g2,g3,g4,g5⟩:=hw;go_simp;try with_reducible rfl
   simp only[Act.put];refine bG (v:=?v16) 16 rfl (by kernel_rfl) (by kernel_rfl) (by kernel_rfl) (by kernel_rfl) (fun _ _ _ h=>h) hS (.inl ⟨rfl,fun w hw=>?a6v⟩) ?aeU
   case a6v=>obtain⟨g1,g2,g3,g4,g5⟩:=hw;go_simp;try with_reducible rfl
   simp only[Act.put];refine bG (v:=?v17) 17 rfl (by kernel_rfl) (by kernel_rfl) (by kernel_rfl) (by kernel_rfl) (fun _ _ _ h=>h) hS (.inl ⟨rfl,fun w hw=>?a6w⟩) ?aeV
   case a6w=>obtain⟨g1,g2,g3,g4,g5⟩:=hw;go_simp;try with_reducible rfl
   simp only[Act.put];refine bG (v:=?v18) 18 rfl (by kernel_rfl) (by kernel_rfl) (by kernel_rfl) (by kernel_rfl) (fun _ _ _ h=>h) hS (.inl ⟨rfl,fun w hw=>?a6x⟩) ?aeW
   case a6x=>obtain⟨g1,g2,g3,g4,g5⟩:=hw;go_simp;try with_reducible rfl
   simp only[Act.put];refine bG (v:=?v19) 19 rfl (by kernel_rfl) (by kernel_rfl) (by kernel_rfl) (by kernel_rfl) (fun _ _ _ h=>h) hS (.inl ⟨rfl,fun w hw=>?afe⟩) ?amj
   case afe=>obtain⟨g1,g2,g3,g4,g5⟩:=hw;go_simp;try with_reducible rfl
   simp only[Act.put];refine bG (v:=?v20) 20 rfl (by kernel_rfl) (by kernel_rfl) (by kernel_rfl) (by kernel_rfl) (fun _ _ _ h=>h) hS (.inl ⟨rfl,fun w hw=>?a6y⟩) ?aeX
   case a6y=>obtain⟨g1,g2,g3,g4,g5⟩:=hw;go_simp;try with_reducible rfl
   simp only[Act.put];refine bG (v:=?v21) 21 rfl (by kernel_rfl) (by kernel_rfl) (by kernel_rfl) (by kernel_rfl) (fun _ _ _ h=>h) hS (.inl ⟨rfl,fun w hw=>?a6z⟩) ?aeY
   case a6z=>obtain⟨g1,g2,g3,g4,g5⟩:=hw;go_simp;try with_reducible rfl
   simp only[Act.put];refine jW 13 (by kernel_rfl) rfl (fun K hK=>?_);go_simp;go_wp2_with(go_at_call 41;refine CA.mono ?_;rintro e2 w2 ⟨o2,n2,k2,rfl,yc,b2'⟩);have b12:Below w1.heap.size w1 w2:=⟨b2'.os,b2'.tape,b2'.output,b2'.size,b2'.block⟩;have hS2:=hS.keep b2';refine hK.out _ _ (fun _=>hS2) ?_;clear hK;have CI2:=CI w2 (aH HB1.out b12);refine jW 22 (by kernel_rfl) rfl (fun K hK=>?_);go_simp;go_wp2_with(go_at_call 154;refine CI2.mono ?_;rintro e3 w3 ⟨o3,k3,rfl,zT,tH⟩);have hS3:=hS2.keep tH;refine hK.out _ _ (fun _=>hS3) ?_;clear hK;have b13:=aH b12 tH;refine jW 23 (by kernel_rfl) rfl (fun K hK=>?_);go_simp;refine hK.out _ _ (fun _=>hS3) ?_;clear hK;refine jW 24 (by kernel_rfl) rfl (fun K hK=>?_);go_simp;have hS4:=hS3.keep (bT w3 (.cells #[.string ⟨e.name.toArray⟩,.slice o2 n2 k2,.int .i64 e.parent,.slice o3 e.kids.length k3] 102));refine hK.out _ _ (fun _=>hS4) ?_;clear hK;have b14:=aH b13 (bT w3 (.cells #[.string ⟨e.name.toArray⟩,.slice o2 n2 k2,.int .i64 e.parent,.slice o3 e.kids.length k3] 102));have aff:=aaC.same (b14.block _ aaC.lt);obtain⟨w5,hrun,aaE,htu⟩:=gq.a2F (T:=93) aff underlying3 underlying93 (by have:=h.few;simp only[maxLen];omega) hwk w3.heap.size (hd1.non x hno);refine jW 25 (by kernel_rfl) rfl (fun K hK=>?_);go_simp;refine hK.out _ _ (fun h=>absurd rfl h) ?_;clear hK;refine Pv (by kernel_rfl) ?_ _;have hrl:W.heap.size+1+1<w1.heap.size:=by
    obtain⟨es,cl,si,se,c0, -, -, -, -,h5, -⟩:=hrg1;exact aI h5
   have hMB:MB<W.heap.size:=hown.lt;have he:=HHE.out;have sz4:=b14.size;have e5:∀j,j≠W.heap.size->w5.heap[j]? =(w3.alloc (.cells #[.string ⟨e.name.toArray⟩,.slice o2 n2 k2,.int .i64 e.parent,.slice o3 e.kids.length k3] 102)).heap[j]? :=fun j hj=>by
    rcases Nat.lt_or_ge j (w3.alloc (.cells #[.string ⟨e.name.toArray⟩,.slice o2 n2 k2,.int .i64 e.parent,.slice o3 e.kids.length k3] 102)).heap.size with h1|h1
    ·exact htu.grown.block j h1 (fun e1=>hj (dP e1))
    ·obtain⟨es,cl,es',cl',h2,h3⟩:=htu;rw[h3,Array.getElem?_eq_none h1,Array.getElem?_eq_none];simpa[ChangeMaps.setBlock] using h1
   have e15:∀j,j<w1.heap.size->j≠W.heap.size->w5.heap[j]? =w1.heap[j]? :=fun j hj hn=>(e5 j hn).trans (b14.block j hj);have RG:w5.ranges prog 3 qH MB (W.heap.size+1+1) nx D (fun z=>left z && !z.sameKey (.int .i64 x)) cnt1:=MH hrg1 (e15 MB (by omega) (by omega)) (e15 _ hrl (by omega));have XM:=aQ yc (aH tH (bT w3 (.cells #[.string ⟨e.name.toArray⟩,.slice o2 n2 k2,.int .i64 e.parent,.slice o3 e.kids.length k3] 102)));have afg:=aQ zT (bT w3 (.cells #[.string ⟨e.name.toArray⟩,.slice o2 n2 k2,.int .i64 e.parent,.slice o3 e.kids.length k3] 102));have l2:∀g,(Value.slice o2 n2 k2).ownBlock=some g->w1.heap.size<=g/\g<w2.heap.size:=fun g hg=>yc.lt g hg;have l3:∀g,(Value.slice o3 e.kids.length k3).ownBlock=some g->w2.heap.size<=g/\g<w3.heap.size:=fun g hg=>zT.lt g hg;have s12:=b12.size;have s23:=tH.size;have sW:=HB1.out.size;have NE:U4 W.heap.size kR (w3.alloc (.cells #[.string ⟨e.name.toArray⟩,.slice o2 n2 k2,.int .i64 e.parent,.slice o3 e.kids.length k3] 102)) w3.heap.size e (.slice o2 n2 k2) (.slice o3 e.kids.length k3):=
    ⟨dw w3 _ _,by omega,hd1.new (by omega),eZ XM sW,fun g hg=>⟨hd1.new (l2 g hg).1,by have:=l2 g hg;omega⟩,eZ afg (by omega),fun g hg=>⟨hd1.new (by have:=l3 g hg;omega),by have:=l3 g hg;omega,fun e1=>by have:=l2 g e1;have:=l3 g hg;omega⟩⟩
   have DW:=(hd1.below b14).a9W hdom.1 hdom.2 NE hwf (w':=w5) (aaE.mono (by omega)) e5 htu.grown.size;have hCd:=hcd.put hno e;rw[<- OT hMx] at DW hCd;have TG:kS kR x w3.heap.size (.slice o2 n2 k2) (.slice o3 e.kids.length k3) (W.heap.size+1+1)=none:=by
    unfold kS;rw[if_neg (by omega),if_neg (fun e1=>by have:=l2 _ e1;omega),if_neg (fun e1=>by have:=l3 _ e1;omega)];exact htn
   have FIN:Hid (_/\_/\_/\_/\_/\_):=And.intro RG (And.intro DW (And.intro hCd (And.intro TG (And.intro aaE ((HB1.out.trans (b14.mono sW)).grown htu.grown (by omega) (fun j hj=>by cases hj;exact Nat.le_refl _))))));have MEA:Hid (w5.rangeLeft MB (W.heap.size+1+1)<wr.rangeLeft MB (W.heap.size+1+1)):=(by rw[RG.left_eq,hrg.left_eq];exact hlt:w5.rangeLeft MB (W.heap.size+1+1)<wr.rangeLeft MB (W.heap.size+1+1));have HLH:∀z,(left z && !z.sameKey (.int .i64 x))=true->Maps.has D z=true:=fun z hz=>hlh z (by simp only[Bool.and_eq_true] at hz;exact hz.1);clear RG DW hCd TG NE e5 e15;go_wp2_with fail
   go_roundw
   case rel=>
    obtain⟨h1,h2,h3,h4,h5,h6⟩:=FIN.out;exact⟨_,cnt1,_,_,_,h1,HLH,h2,h3,h4,h5,h6⟩
   case measure=>exact MEA.out
end
section
open Go.RowKit
def PK (tg:bP)(DB Dy:Nat):bP:=fun x=>if x=DB then some .doc else if x=Dy then none else tg x
theorem aX.home {B B':Nat}{tg:bP}{w Z:ag}{DB Dy MB:Nat}{p:Int->Option Nat}{M:Dm}{nx c:Nat}(h:aX B tg w Dy MB p M nx c)(hB:B'<=DB)(hDB:DB<B)(hz:∀b,B<=b->Z.heap[b]? =w.heap[b]?)(hd:Z.heap[DB]? =some (.cells #[.map (some MB),aa nx] 95))(hs:w.heap.size<=Z.heap.size):aX B' (PK tg DB Dy) Z DB MB p M nx c:=by
 have hk:∀g t,tg g=some t->t≠.doc->PK tg DB Dy g=some t/\Z.heap[g]? =w.heap[g]? :=fun g t ht hn=>by
  have h1:=(h.low g t ht).1;refine⟨?_,hz g h1⟩;unfold PK;rw[if_neg (by omega),if_neg (fun e=>by rw[e,h.ji] at ht;cases ht;exact hn rfl)];exact ht
 obtain⟨m1,m2⟩:=hk MB _ h.jk (by simp);refine⟨hd,by unfold PK;rw[if_pos rfl],h.map.same m2,m1,fun i e he=>?_,h.non,fun b t ht=>?_,h.dom,h.wf,h.few,fun b i hb=>?_⟩
 ·obtain⟨b,va,vk,h1,h2⟩:=h.els i e he;exact⟨b,va,vk,h1,(h2.turn fun g t ht hh=>hk g t ht (by rcases hh with rfl|rfl|rfl<;>simp)).Zc (by omega)⟩
 ·unfold PK at ht;split at ht
  ·rename_i e;subst e;exact⟨hB,aI hd⟩
  ·split at ht
   ·cases ht
   ·have:=h.low b t ht;omega
 ·refine h.Nh b i ?_;unfold PK at hb;split at hb
  ·rcases hb with hb|hb|hb<;>cases hb
  ·split at hb
   ·rcases hb with hb|hb|hb<;>cases hb
   ·exact hb
structure Ed where
 kd:Bs
 n:Int
 m:Int
 ea:Int
 nm:Bs
 vl:Bs
abbrev vS (x:Ed):Array ah:=#[.string ⟨x.kd.toArray⟩,aa x.n,aa x.m,aa x.ea,.string ⟨x.nm.toArray⟩,.string ⟨x.vl.toArray⟩]
structure EdC (w:ag)(b:Nat)(x:Ed):Prop where
 c0:w.cell? (ak b 0)=some (.string ⟨x.kd.toArray⟩)
 c1:w.cell? (ak b 1)=some (aa x.n)
 c2:w.cell? (ak b 2)=some (aa x.m)
 c3:w.cell? (ak b 3)=some (aa x.ea)
 c4:w.cell? (ak b 4)=some (.string ⟨x.nm.toArray⟩)
 c5:w.cell? (ak b 5)=some (.string ⟨x.vl.toArray⟩)
theorem EdC.of {w:ag}{b:Nat}{x:Ed}{t:TypeId}(h:w.heap[b]? =some (.cells (vS x) t)):EdC w b x:=⟨aD h 0 _ rfl,aD h 1 _ rfl,aD h 2 _ rfl,aD h 3 _ rfl,aD h 4 _ rfl,aD h 5 _ rfl⟩
def nM:Bs:=[115,104,101,101,116]
theorem a6L {a b:Bs}(h:a≠b):(a==b)=false:=beq_eq_false_iff_ne.2 h
theorem PR (x:Ed)(hx:x.kd≠nM)(o:Option Addr)(n cp:Nat)(W:ag):
  au 105 #[.slice o n cp,.agg (vS x)] W fun e w'=>e=.returned (.tuple #[.slice o n cp,.nilIface])/\Below W.heap.size W w':=by
 have hk:=EdC.of (dw W (vS x) 145);have h0:=hk.c0;have hn:=a6L hx;unfold nM at hn;clear hk;go_enter func105,ntmps105;go_wp2_with fail
 go_ret2
 exact⟨rfl,bT _ _⟩
theorem eG.cl {B:Nat}{tg:bP}{W:ag}{DB MB:Nat}{p:Int->Option Nat}{M:Dm}{nx c:Nat}{r:Int->Nat}(h:eG M)(hd:jm B tg W DB MB p M nx c r):aaz M:=fun i e he=>by
 obtain⟨-,h2,h3⟩:=h i e he;have h4:=hd.few he;refine⟨by omega,by omega,fun a ha=>?_⟩;have h5:=jg (h3.1 a ha).1;have h6:=lS (h3.1 a ha).2;simp only[maxLen];omega
end
section
open Go.RowKit
set_option maxRecDepth 20000
abbrev UX (a b:List dI)(h:Nat):List Int:=(EJ (a.map dI.pc) (b.map dI.pc) h).map fun(y:Nat)=>(y:Int)
def PS (E:Nat->Addr)(M:Dm)(rl:List Rl)(v:ah)(w:ag):Prop:=∃pb n,v=.iface 90 (ay pb)/\w.cell? (ak pb 0)=some (aa n)/\
 ((∃ft,dV M rl=.error ft/\w.cell? (ak pb 1)=some (eV (E ft.code)))\/(∃q x t,dV M rl=.ok (q++x::t)/\(∀y∈q,iw (fK y))/\¬iw (fK x)/\w.cell? (ak pb 1)=some (.iface 401 (.pointer (some (xD (E 2) (E 3) (E 10) (fK x).pts))))))
theorem PS.no {E:Nat->Addr}{M:Dm}{rl:List Rl}{v:ah}{w:ag}(h:PS E M rl v w):¬UT M rl:=fun⟨l,h1,h2⟩=>by
 obtain⟨pb,n, -, -,⟨ft,h3, -⟩|⟨q,x,t,h3, -,h4, -⟩⟩:=h
 ·rw[h1] at h3;cases h3
 ·rw[h1] at h3;cases h3;exact h4 (h2 x (by simp))
def DoK (W:ag)(LB B:Nat)(tg:bP)(DB MB:Nat)(p:Int->Option Nat)(M:Dm)(nx c:Nat)(r:Int->Nat)(rl:List Rl)(rv:ah)(qs:List dI)(pv:ah)(w h:Nat)(cv:ah)(E:Nat->Addr)(AE RE:ah->Prop)(AO:Dm->Nat->Nat->(Int->Nat)->Prop)(rl':List Rl)(e:Ending)(w':ag):Prop:=
 ((∃t u,e=.returned (.tuple #[.slice none 0 0,.iface t u])/\(AE (.iface t u)\/RE (.iface t u)\/∃M2 l7 c2 r2,AO M2 l7 c2 r2/\PS E M2 rl' (.iface t u) w'))/\Below W.heap.size W w'/\LvS w' LB B tg DB MB p M nx c r rl rv qs pv w h cv)\/
 (∃vR MB2 p2 M2 l7 c2 r2 rv2 vF pv2 cv2 o n cp,AO M2 l7 c2 r2/\UT M2 rl'/\K2 LB DB W w'/\e=.returned (.tuple #[.slice o n cp,.nilIface])/\w'.ownsRow W.heap.size 3 1 (.slice o n cp) (UX qs vF h).length (aU (UX qs vF h))/\LvS w' LB B vR DB MB2 p2 M2 l7 c2 r2 rl' rv2 vF pv2 w h cv2/\∀b,b<W.heap.size->b≠DB->vR b=none)
section
variable {E:Nat->Addr}{W:ag}{LB B:Nat}{tg:bP}{DB MB:Nat}{p:Int->Option Nat}{M:Dm}{nx c:Nat}{r:Int->Nat}{rl:List Rl}{rv:ah}{qs:List dI}{pv:ah}{w h:Nat}{cv:ah}
structure UY (Y:ag)(LB:Nat)(cs:Array ah)(t:TypeId)(Z:ag):Prop where
 lb:Z.heap[LB]? =some (.cells cs t)
 ne:∀b,b≠LB->Z.heap[b]? =Y.heap[b]?
 sz:Z.heap.size=Y.heap.size
 os:Z.os=Y.os
 tape:Z.tape=Y.tape
 out:Z.output=Y.output
theorem UY.set {Y Z:ag}{LB:Nat}{cs:Array ah}{t:TypeId}{i:Nat}{v:ah}(h:UY Y LB cs t Z):UY Y LB (cs.setIfInBounds i v) t (Z.setCell ⟨LB,i,none⟩ v):=by
 have hs:=(aG LB Z).setCell (p:=⟨LB,i,none⟩) ai v;exact⟨heap_setCell_same Z LB i _ _ _ h.lb,fun b hb=>(aY _ _ _ b hb).trans (h.ne b hb),(World.size_setCell _ _ _).trans h.sz,hs.os.trans h.os,hs.tape.trans h.tape,hs.output.trans h.out⟩
theorem UY.drew {Y Z:ag}{LB:Nat}{cs:Array ah}{t:TypeId}(h:UY Y LB cs t Z):UY Y LB cs t Z.drew:=⟨h.lb,h.ne,h.sz,h.os,h.tape,h.out⟩
theorem UY.self {Y:ag}{LB:Nat}{cs:Array ah}{t:TypeId}(h:Y.heap[LB]? =some (.cells cs t)):UY Y LB cs t Y:=⟨h,fun _ _=>rfl,rfl,rfl,rfl,rfl⟩
theorem Dz {w w':ag}{base k n:Nat}{t:TypeId}{v:ah}{xs:List ah}(h:w.ownsRow base t k v n xs)(hs:∀(g:Nat) (cs:Array ah) (f:Nat×Nat),w.heap[g]? =some (Obj.cells cs t f)->w'.heap[g]? =w.heap[g]?):w'.ownsRow base t k v n xs:=
 bS h fun g hg=>by obtain⟨cs,f,h1, -⟩:=dS h g hg;exact hs g cs f h1
theorem a2G {x:dI}(h:iw (fK x.pc)):x.pts.length<=1000:=by
 have h1:x.pts.length<=30:=h.1.1;omega
theorem a6M (a b:List dI)(y:Nat):(!decide ((yw (a.map dI.pc) y).map oG=(yw (b.map dI.pc) y).map oG))=false↔sP ((a.map dI.p5).filter fun x=>aN x.s.pts y)=sP ((b.map dI.p5).filter fun x=>aN x.s.pts y):=by
 have e1:∀l:List dI,sP ((l.map dI.p5).filter fun x=>aN x.s.pts y)=(yw (l.map dI.pc) y).map fK:=fun l=>by
  rw[<- Pn,List.filter_map,List.map_map,sP,List.map_map,List.filter_map];rfl
 rw[e1,e1];simp only[Bool.not_eq_false',decide_eq_true_eq];constructor
 ·exact fun hh=>Rt hh
 ·intro hh;have e2:∀l:List Pc,l.map oG=(l.map fK).map fun s=>(s.fill.toList,s.rule.toList,s.pts):=fun l=>by
   rw[List.map_map];refine List.map_congr_left fun x _=>?_;simp[oG,fK,ByteArray.toList_eq]
  rw[e2,e2,hh]
theorem a2H (hE:LE E W)(hl:LvS W LB B tg DB MB p M nx c r rl rv qs pv w h cv)(hw1:1<=w)(hw:w<=40)(ug:1<=h)(hh:h<=40)(x:Ed)(AE RE:ah->Prop)(AO:Dm->Nat->Nat->(Int->Nat)->Prop)(rl':List Rl)(Zd:∀y∈rl',RlG y)
  (hAp:∀N V sJ Dy Je p1,W.heap.size<=N->Below W.heap.size W V->jm N sJ V Dy Je p1 M nx c r->au 104 #[ay Dy,.agg (vS x)] V fun e w'=>Below N V w'/\((∃t u,AE (.iface t u)/\e=.returned (.iface t u))\/(e=.returned .nilIface/\∃vR p2 M2 l7 c2 r2,AO M2 l7 c2 r2/\eG M2/\jm N vR w' Dy Je p2 M2 l7 c2 r2)))
  (hRb:∀V,Below W.heap.size W V->au 105 #[rv,.agg (vS x)] V fun e w'=>Below V.heap.size V w'/\((∃u t y,RE (.iface t y)/\e=.returned (.tuple #[u,.iface t y]))\/∃o n cp,e=.returned (.tuple #[.slice o n cp,.nilIface])/\w'.ownsRow B 109 3 (.slice o n cp) rl'.length (eY rl'))):
  au 58 #[ay LB,.agg (vS x)] W fun e w'=>DoK W LB B tg DB MB p M nx c r rl rv qs pv w h cv E AE RE AO rl' e w':=by
 obtain⟨Nk,Nl,OE⟩:=aM hl.row;obtain⟨opv,cpv,hpv⟩:=aM hl.pc.own;obtain⟨ocv,ccv,hcv⟩:=aM hl.pic;subst OE hpv hcv;have b0:=bT W (.cells (vS x) 145);have kb:=dw W (vS x) 145;go_enter func58,ntmps58;go_upto_region 1 with fail;obtain⟨U,hU⟩:∃U,W.alloc (.cells (vS x) 145)=U:=⟨_,rfl⟩;rw[hU] at b0 kb⊢;clear hU;have hlU:=hl.below b0;have l0:=aD hlU.lb 0 _ rfl;have CL:au 103 #[ay DB] U fun e w1=>∃Dy Je sJ p1,e=.returned (ay Dy)/\Below U.heap.size U w1/\Hid (jm U.heap.size sJ w1 Dy Je p1 M nx c r):=(UW hlU.ds.w hlU.ds.n (hl.ok.cl hl.ds)).mono fun e w1 ⟨h1,Dy,Je,sJ,p1,h2,h3⟩=>⟨Dy,Je,sJ,p1,h2,h1,h3,hl.ds.d,hl.ds.n,hl.ds.le,h1.size⟩;go_upto_region 2 with(go_at_call 103;refine CL.mono ?_;rintro e w1 ⟨Dy,Je,sJ,p1,rfl,b1,hd1⟩);have uP:=aH b0 b1;have AP:=hAp U.heap.size w1 sJ Dy Je p1 b0.size uP hd1.out;have kb1:=(b1.block _ (aI kb)).trans kb;obtain⟨e0,e1,e2,e3,e4,e5⟩:=EdC.of kb1;clear l0 CL hlU hAp hd1;go_upto_region 3 with(go_at_call 104;refine AP.mono ?_;rintro e w2 ⟨b2,h2⟩;obtain⟨v2,rfl,hv2⟩:∃v,e=.returned v/\((∃t u,AE (.iface t u)/\v=.iface t u)\/(v=.nilIface/\∃vR p2 M2 l7 c2 r2,AO M2 l7 c2 r2/\eG M2/\jm U.heap.size vR w2 Dy Je p2 M2 l7 c2 r2)):=(by rcases h2 with⟨t,u,k1,k2⟩|⟨k1,k2⟩;exact⟨_,k2,.inl ⟨t,u,k1,rfl⟩⟩;exact⟨_,k1,.inr ⟨rfl,k2⟩⟩);clear h2);clear AP e0 e1 e2 e3 e4 e5;have Jb:Below W.heap.size W w2:=uP.trans (b2.mono b0.size);rcases hv2 with⟨t,u,ha,rfl⟩|⟨rfl,vR,p2,M2,l7,c2,r2,hao,hok2,hd2⟩
 ·go_wp2_with fail
  go_ret2
  exact .inl ⟨⟨t,u,rfl,.inl ha⟩,Jb,hl.below Jb⟩
 have sU:=aI kb;have kb2:w2.heap[W.heap.size]? =some (.cells (vS x) 145):=(b2.block _ sU).trans kb1;have k2:=EdC.of kb2;have lb2:=(Jb.block _ (aI hl.lb)).trans hl.lb;have RB:=(hRb w2.drew (below_drewN Jb 1)).mono (R':=fun e w3=>∃v u,e=.returned (.tuple #[v,u])/\Below w2.heap.size w2 w3/\((∃t y,RE (.iface t y)/\u=.iface t y)\/(u=.nilIface/\∃o n cp,v=.slice o n cp/\w3.ownsRow B 109 3 (.slice o n cp) rl'.length (eY rl')))) fun e w3 ⟨q1,q2⟩=>by
  have q1':Below w2.heap.size w2 w3:=⟨q1.os,q1.tape,q1.output,q1.size,q1.block⟩;rcases q2 with⟨u,t,y,q2,q3⟩|⟨o,n,cp,q3,q4⟩
  ·exact⟨_,_,q3,q1',.inl ⟨t,y,q2,rfl⟩⟩
  ·exact⟨_,_,q3,q1',.inr ⟨rfl,o,n,cp,rfl,q4⟩⟩
 obtain⟨e0,e1,e2,e3,e4,e5⟩:=k2;have l1:=aD lb2 1 _ rfl;have HD2:=aj hd2;have HL:=aj hl;clear hRb hd2 hl kb kb1;go_upto_region 5 with fail
 go_cut [8,9] from 24 to 32 (fun v u wx=>Below w2.heap.size w2 wx/\((∃t y,RE (.iface t y)/\u=.iface t y)\/(u=.nilIface/\∃o n cp,v=.slice o n cp/\wx.ownsRow B 109 3 (.slice o n cp) rl'.length (eY rl'))))
 case first=>
  go_region_with (go_at_call 105;refine RB.mono ?_;rintro e w3 ⟨v3,u3,rfl,b3,h3⟩)
  all_goals go_wp2_with fail
  all_goals go_meet
  all_goals exact⟨b3,h3⟩
 case rest=>
  clear RB l1 e0 e1 e2 e3 e4 e5;obtain⟨b3,h3⟩:=hcut;have vZ:=aH Jb b3;rcases h3 with⟨t,y,hre,rfl⟩|⟨rfl,o3,n3,cp3,rfl,zT⟩
  ·go_wp2_with fail
   go_ret2
   exact .inl ⟨⟨t,y,rfl,.inr (.inl hre)⟩,vZ,HL.out.below vZ⟩
  have hd3:=HD2.out.below b3;have PI:=Dv (l:=rl') (B0:=B) ⟨hd3,(hE.below vZ).ne,hok2.fit.1,hok2.fit.2,Zd,zT⟩;obtain⟨pm,hpm⟩:∃x,dV M2 rl'=x:=⟨_,rfl⟩;rw[hpm] at PI;have HPM:=aj hpm;clear hpm;cases pm with
  |error ft=>
   have PI':=PI.mono (R':=fun e w4=>∃pb,e=.returned (.tuple #[.slice none 0 0,.iface 90 (ay pb)])/\Hid (w4.cell? (ak pb 0)=some (aa ft.pl)/\w4.cell? (ak pb 1)=some (eV (E ft.code)))/\Below wc.heap.size wc w4) fun e w4 ⟨⟨u,h1,pb,_,h2,h3⟩,h4⟩=>⟨pb,by rw[h1,h2],⟨aD h3 0 _ rfl,aD h3 1 _ rfl⟩,h4⟩;clear PI;go_wp2_with(go_at_call 22;refine PI'.mono ?_;rintro e w4 ⟨pb,rfl,hpc,b4⟩)
   go_ret2
   have bw4:=aH vZ b4;exact .inl ⟨⟨_,_,rfl,.inr (.inr ⟨M2,l7,c2,r2,hao,pb,ft.pl,rfl,hpc.out.1,.inl ⟨ft,HPM.out,hpc.out.2⟩⟩)⟩,bw4,HL.out.below bw4⟩
  |ok l=>
   have PI':=PI.mono (R':=fun e w4=>∃vF o4 n4 c4,e=.returned (.tuple #[.slice o4 n4 c4,.nilIface])/\Hid (vF.map dI.pc=l)/\wZ w4 wc.heap.size (.slice o4 n4 c4) vF/\Below wc.heap.size wc w4) fun e w' ⟨⟨qs,v,h1,h2,h3,h4,h5⟩,h6⟩=>by
    obtain⟨o,cp,rfl⟩:=aM h3;exact⟨qs,o,_,cp,h2,h1,⟨h3,h4,h5⟩,h6⟩
   clear PI;go_upto_region 11 with(go_at_call 22;refine PI'.mono ?_;rintro e w4 ⟨vF,o4,n4,c4,rfl,q4,p4,b4⟩);have bw4:=aH vZ b4;have lb4:=(bw4.block _ (aI HL.out.lb)).trans HL.out.lb;have l2:=aD lb4 2 _ rfl;have l4:=aD lb4 4 _ rfl;have hq2:vF.length<=1000:=by have h1:=Dw HPM.out;rw[<- q4.out,List.length_map] at h1;exact h1
   have afp:∀y∈vF.map dI.p5,y.s.pts.length<=1000:=fun y hy=>by
    obtain⟨z,hz,rfl⟩:=List.mem_map.1 hy;have h1:=U8 HPM.out z.pc (by rw[<- q4.out];exact List.mem_map_of_mem hz);exact aJ h1 (by omega)
   have afq:∀y∈qs.map dI.p5,y.s.pts.length<=1000:=fun y hy=>by
    obtain⟨z,hz,rfl⟩:=List.mem_map.1 hy;exact a2G (HL.out.pk z hz)
   have CR:au 106 #[.slice opv qs.length cpv,.slice o4 n4 c4,aa h] w4.drew fun e w5=>∃o n cp,e=.returned (.slice o n cp)/\w5.ownsRow w4.heap.size 3 1 (.slice o n cp) (UX qs vF h).length (aU (UX qs vF h))/\Below w4.heap.size w4 w5:=by
    obtain⟨oA,cA,hA1,hA2,hA3⟩:=(HL.out.pc.below (below_drewN bw4 1)).row;obtain⟨oB,cB,hB1,hB2,hB3⟩:=(p4.below (below_drewN (aG _ _) 1)).row;rw[hA1,hB1];refine(zX (E 2) (E 3) (E 3) _ _ oA oB cA cB h (fun y=> !decide ((yw (qs.map dI.pc) y).map oG=(yw (vF.map dI.pc) y).map oG)) w4.drew (by rw[List.length_map];exact HL.out.ql) (by rw[List.length_map];exact hq2) hA2 hB2 hA3 hB3 afq afp (hE.below (below_drewN bw4 1)).ep.e3 (by omega) (a6M qs vF)).mono fun e w5 ⟨v,h1,h2,h3⟩=>?_;obtain⟨o,cp,rfl⟩:=aM h2;exact⟨o,_,cp,h1,h2,⟨h3.os,h3.tape,h3.output,h3.size,h3.block⟩⟩
   go_cut [11] from 45 to 55 (fun v wx=>∃o n cp,v=.slice o n cp/\wx.ownsRow w4.heap.size 3 1 (.slice o n cp) (UX qs vF h).length (aU (UX qs vF h))/\Below w4.heap.size w4 wx)
   case first=>
    go_region_with (go_at_call 106;refine CR.mono ?_;rintro e w5 ⟨o5,n5,c5,rfl,oQ,b5⟩)
    all_goals go_wp2_with fail
    all_goals go_meet
    all_goals exact⟨_,_,_,rfl,oQ,b5⟩
   case rest=>
    obtain⟨o5,n5,c5,rfl,oQ,b5⟩:=hcut;clear CR l2 l4;have bw5:=aH bw4 b5;have lb5:=(bw5.block _ (aI HL.out.lb)).trans HL.out.lb;have l3:=aD lb5 3 _ rfl;have l4:=aD lb5 4 _ rfl;have l5:=aD lb5 5 _ rfl;have hup:=YL (qs.map dI.pc) (vF.map dI.pc) h;have PA:au 107 #[.agg #[aa w,aa h,.slice ocv (w*h) ccv],.slice o4 n4 c4,.slice o5 n5 c5] wc fun e w6=>Below wc.heap.size wc w6/\(((∀x∈vF,iw (fK x.pc))/\∃g cp,e=.returned (.tuple #[.agg #[aa w,aa h,.slice (some ⟨g,0,none⟩) (w*h) cp],.nilIface])/\Hid (w6.ownsRow wc.heap.size 9 1 (.slice (some ⟨g,0,none⟩) (w*h) cp) (w*h) ((lW aN ((vF.map dI.pc).map fK) w h).map .string)))\/((¬∀x∈vF,iw (fK x.pc))/\∃pb,e=.returned (.tuple #[.agg #[aa 0,aa 0,.slice none 0 0],.iface 90 (ay pb)])/\Hid (Wh (E 2) (E 3) (E 10) (vF.map dI.p5) wc.heap.size pb w6))):=by
     obtain⟨oB,cB,hB1,hB2,hB3⟩:=(p4.below b5).row;rw[hB1];refine(zW (E 2) (E 3) (E 3) (E 10) (vF.map dI.p5) oB cB w h _ B (.slice ocv (w*h) ccv) (EJ (qs.map dI.pc) (vF.map dI.pc) h) w4.heap.size (.slice o5 n5 c5) wc hw1 hw ug hh (by rw[List.length_map];exact hq2) hB2 hB3 (hE.below bw5).ep (aQ HL.out.pic bw5) (jJ _ _ _ _) (by simpa using oQ) (aJ (List.length_filter_le _ _) (by rw[List.length_range];omega)) hup.2).mono fun e w6 ⟨h1,h2⟩=>⟨h2,?_⟩;have hok:jT (vF.map dI.p5)↔∀x∈vF,iw (fK x.pc):=by
      unfold jT;constructor
      ·intro hh x hx;exact hh _ (List.mem_map_of_mem hx)
      ·intro hh x hx;obtain⟨y,hy,rfl⟩:=List.mem_map.1 hx;exact hh y hy
     rcases h1 with⟨h3,v,h4,h5⟩|⟨h3,pb,h4,h5⟩
     ·obtain⟨g,cp,rfl, -, -⟩:=h5.form (Nat.mul_pos hw1 ug);rw[a4k,<- Gm,YM] at h5;exact .inl ⟨hok.1 h3,g,cp,h4,h5⟩
     ·exact .inr ⟨fun hh=>h3 (hok.2 hh),pb,h5,h4⟩
    by_cases hk:∀x∈vF,iw (fK x.pc)
    ·have PA':=PA.mono (R':=fun e w6=>∃g cp,e=.returned (.tuple #[.agg #[aa w,aa h,.slice (some ⟨g,0,none⟩) (w*h) cp],.nilIface])/\Below wc.heap.size wc w6/\Hid (w6.ownsRow wc.heap.size 9 1 (.slice (some ⟨g,0,none⟩) (w*h) cp) (w*h) ((lW aN ((vF.map dI.pc).map fK) w h).map .string))) fun e w6 ⟨h1,h2⟩=>by
      rcases h2 with⟨-,g,cp,h3,h4⟩|⟨h2, -⟩
      ·exact⟨g,cp,h3,h1,h4⟩
      ·exact absurd hk h2
     have HK:=aj hk;clear PA hk;go_upto_region 15 with(go_at_call 107;refine PA'.mono ?_;rintro e w6 ⟨g6,c6,rfl,b6,Px⟩);have bX:=bT w6 (.cells #[aa w,aa h,.slice (some ⟨g6,0,none⟩) (w*h) c6] 47);have pX:=dw w6 #[aa w,aa h,.slice (some ⟨g6,0,none⟩) (w*h) c6] 47;obtain⟨X,hX⟩:∃X,w6.alloc (.cells #[aa w,aa h,.slice (some ⟨g6,0,none⟩) (w*h) c6] 47)=X:=⟨_,rfl⟩;rw[hX] at bX pX⊢;have b5X:=aH b6 bX;have b4X:=aH b5 b5X;have b3X:=aH b4 b4X;have Wn:=aH bw5 b5X;have lbX:=(Wn.block _ (aI HL.out.lb)).trans HL.out.lb;have dbX:=(Wn.block _ (aI HL.out.ds.w.doc)).trans HL.out.ds.w.doc;have dX:=HD2.out.below (aH b3 b3X);have d1X:=dX.w.doc;have hne:LB≠DB:=fun e1=>by rw[e1,dbX] at lbX;cases lbX
     have hLW:=aI HL.out.lb;have hDW:=aI HL.out.ds.w.doc;have hPW:W.heap.size<=w6.heap.size:=(aH bw5 b6).size;obtain⟨PB,hPB⟩:∃PB,w6.heap.size=PB:=⟨_,rfl⟩;rw[hPB] at pX hPW⊢;have x0:X.drew.cell? (ak LB 0)=some (ay DB):=aD lbX 0 _ rfl;have x1:X.drew.cell? (ak Dy 0)=some (.map (some Je)):=aD d1X 0 _ rfl;have x2:X.drew.cell? (ak Dy 1)=some (aa l7):=aD d1X 1 _ rfl;have x3:X.drew.cell? (ak DB 0)=some (.map (some MB)):=aD dbX 0 _ rfl;have x5:X.drew.frozen? ⟨DB,0,none⟩=false:=aR dbX 0;have y1:X.cell? (ak Dy 0)=some (.map (some Je)):=aD d1X 0 _ rfl;have y2:X.cell? (ak Dy 1)=some (aa l7):=aD d1X 1 _ rfl;have y3:X.cell? (ak DB 0)=some (.map (some MB)):=aD dbX 0 _ rfl;have y4:X.cell? (ak DB 1)=some (aa nx):=aD dbX 1 _ rfl;have y5:X.frozen? ⟨DB,0,none⟩=false:=aR dbX 0;have y6:X.frozen? ⟨DB,1,none⟩=false:=aR dbX 1;clear hX hPB;go_region;have yz:∃cs,UY X DB cs 95 ((X.setCell ⟨DB,0,none⟩ (.map (some Je))).setCell ⟨DB,1,none⟩ (aa l7)).drew/\cs=#[.map (some Je),aa l7]:=⟨_,((UY.self dbX).set.set).drew,rfl⟩;obtain⟨cs1,yz,hcs1⟩:=yz;subst hcs1;obtain⟨Y,hY⟩:∃Y,((X.setCell ⟨DB,0,none⟩ (.map (some Je))).setCell ⟨DB,1,none⟩ (aa l7)).drew=Y:=⟨_,rfl⟩;rw[hY] at yz⊢;clear hY x0 x1 x2 x3 x5 y1 y2 y3 y4 y5 y6;have Ze:=(yz.ne LB hne).trans lbX;have pY:=(yz.ne PB (by omega)).trans pX;have a4o:∀Z,UY Y LB #[ay DB,.slice o3 n3 cp3,.slice o4 n4 c4,aa w,aa h,.slice (some ⟨g6,0,none⟩) (w*h) c6] 67 Z->DoK W LB B tg DB MB p M nx c r rl (.slice Nk rl.length Nl) qs (.slice opv qs.length cpv) w h (.slice ocv (w*h) ccv) E AE RE AO rl' (.returned (.tuple #[.slice o5 n5 c5,.nilIface])) Z:=fun Z hz=>by
      have zn:∀b,b≠LB->b≠DB->Z.heap[b]? =X.heap[b]? :=fun b h1 h2=>(hz.ne b h1).trans (yz.ne b h2);have zs:Z.heap.size=X.heap.size:=hz.sz.trans yz.sz;have tyk:∀(g:Nat) (cs:Array ah) (t:TypeId) (f:Nat×Nat),X.heap[g]? =some (Obj.cells cs t f)->t≠67->t≠95->Z.heap[g]? =X.heap[g]? :=fun g cs t f h1 h2 h3=>zn g (fun e1=>by rw[e1,lbX] at h1;cases h1;exact h2 rfl) (fun e1=>by rw[e1,dbX] at h1;cases h1;exact h3 rfl);have dbZ:Z.heap[DB]? =some (.cells #[.map (some Je),aa l7] 95):=(hz.ne DB (fun e1=>hne e1.symm)).trans yz.lb;have hbB:B<=W.heap.size:=by have h1:=HL.out.base;omega
      have aft:=(HL.out.ds.w.low _ _ HL.out.ds.w.ji).1;have zk:K2 LB DB W Z:=⟨hz.os.trans (yz.os.trans Wn.os),hz.tape.trans (yz.tape.trans Wn.tape),hz.out.trans (yz.out.trans Wn.output),by rw[zs];exact Wn.size,fun b hb h1 h2=>(zn b h1 h2).trans (Wn.block b hb)⟩;have hw:=dX.w.home (B':=B) (Z:=Z) (DB:=DB) aft (by have:=b0.size;omega) (fun b hb=>zn b (by have:=b0.size;omega) (by have:=b0.size;omega)) dbZ (by rw[zs];exact Nat.le_refl _);refine .inr ⟨_,Je,p2,M2,l7,c2,r2,.slice o3 n3 cp3,vF,.slice o4 n4 c4,.slice (some ⟨g6,0,none⟩) (w*h) c6,o5,n5,c5,hao,⟨l,HPM.out,fun y hy=>?_⟩,zk,rfl,?_,⟨hz.lb,HL.out.base,⟨hw,dX.d,dX.n,dX.le,by rw[zs];exact aJ hbB Wn.size⟩,hok2,Zd,?_,⟨?_,fun y hy=>?_,p4.rt⟩,by rw[q4.out];exact HPM.out,HK.out,hq2,?_⟩,fun b hb1 hb2=>?_⟩
      ·rw[<- q4.out] at hy;obtain⟨z,hz',rfl⟩:=List.mem_map.1 hy;exact HK.out z hz'
      ·exact eZ (Dz (aQ oQ b5X) fun g cs f hg=>tyk g cs _ f hg (by decide) (by decide)) bw4.size
      ·exact Dz (aQ zT b3X) fun g cs f hg=>tyk g cs _ f hg (by decide) (by decide)
      ·exact eZ (Dz (aQ p4.own b4X) fun g cs f hg=>tyk g cs _ f hg (by decide) (by decide)) (aJ hbB vZ.size)
      ·exact eZ (Dz (aQ (p4.pts y hy) b4X) fun g cs f hg=>tyk g cs _ f hg (by decide) (by decide)) (aJ hbB vZ.size)
      ·exact eZ (Dz (aQ Px.out bX) fun g cs f hg=>tyk g cs _ f hg (by decide) (by decide)) (aJ hbB bw5.size)
      ·have hbs:=b0.size;unfold PK;rw[if_neg hb2];split
       ·rfl
       ·cases ht:vR b with
        |none=>rfl
        |some t=>have:=(dX.w.low b t ht).1;omega
     have HFI:=aj a4o;clear a4o;have y1:=aD Ze 1 _ rfl;have y2:=aD Ze 2 _ rfl;have y3:=aD Ze 3 _ rfl;have y4:=aD Ze 4 _ rfl;have y5:=aD Ze 5 _ rfl;have f1:=aR Ze 1;have f2:=aR Ze 2;have f3:=aR Ze 3;have f4:=aR Ze 4;have f5:=aR Ze 5;have p1:=aD pY 0 _ rfl;have p2:=aD pY 1 _ rfl;have p3:=aD pY 2 _ rfl;go_upto_region 16 with fail;go_region;have hz:∃cs,UY Y LB cs 67 (((((Y.setCell ⟨LB,1,none⟩ (.slice o3 n3 cp3)).setCell ⟨LB,2,none⟩ (.slice o4 n4 c4)).setCell ⟨LB,3,none⟩ (aa w)).setCell ⟨LB,4,none⟩ (aa h)).setCell ⟨LB,5,none⟩ (.slice (some ⟨g6,0,none⟩) (w*h) c6)).drew/\cs=#[ay DB,.slice o3 n3 cp3,.slice o4 n4 c4,aa w,aa h,.slice (some ⟨g6,0,none⟩) (w*h) c6]:=⟨_,((UY.self Ze).set.set.set.set.set).drew,rfl⟩;obtain⟨cs2,hz,hcs2⟩:=hz;subst hcs2;have HZ:Hid (DoK W LB B tg DB MB p M nx c r rl (.slice Nk rl.length Nl) qs (.slice opv qs.length cpv) w h (.slice ocv (w*h) ccv) E AE RE AO rl' (.returned (.tuple #[.slice o5 n5 c5,.nilIface])) (((((Y.setCell ⟨LB,1,none⟩ (.slice o3 n3 cp3)).setCell ⟨LB,2,none⟩ (.slice o4 n4 c4)).setCell ⟨LB,3,none⟩ (aa w)).setCell ⟨LB,4,none⟩ (aa h)).setCell ⟨LB,5,none⟩ (.slice (some ⟨g6,0,none⟩) (w*h) c6)).drew):=HFI.out _ hz;clear hz HFI;go_wp2_with fail
     go_ret2
     exact HZ.out
    ·have PA':=PA.mono (R':=fun e w6=>∃pb,e=.returned (.tuple #[.agg #[aa 0,aa 0,.slice none 0 0],.iface 90 (ay pb)])/\Hid (Wh (E 2) (E 3) (E 10) (vF.map dI.p5) wc.heap.size pb w6)/\Below wc.heap.size wc w6) fun e w6 ⟨h1,h2⟩=>by
      rcases h2 with⟨h2, -⟩|⟨-,pb,h3,h4⟩
      ·exact absurd h2 hk
      ·exact⟨pb,h3,h4,h1⟩
     clear PA hk;go_wp2_with(go_at_call 107;refine PA'.mono ?_;rintro e w6 ⟨pb,rfl,hfb,b6⟩)
     go_ret2
     have bm:=bT w6 (.cells #[aa 0,aa 0,.slice none 0 0] 47);have bw6:=aH bw5 (aH b6 bm);obtain⟨q,y,t,e1,e2,e3, -,⟨n0,e4⟩,e5⟩:=hfb.out;obtain⟨q',l2,hq',e6,e7⟩:=List.map_eq_append_iff.1 e1;obtain⟨y',t',rfl,e8,e9⟩:=List.map_eq_cons_iff.1 e7;subst e6 e8 e9 hq';refine .inl ⟨⟨_,_,rfl,.inr (.inr ⟨M2,l7,c2,r2,hao,pb,n0,rfl,(bm.cell (az e4)).trans e4,.inr ⟨q'.map dI.pc,y'.pc,t'.map dI.pc,?_,fun z hz=>?_,e3,(bm.cell (az e5)).trans e5⟩⟩)⟩,bw6,HL.out.below bw6⟩
     ·rw[HPM.out,<- q4.out];simp
     ·obtain⟨z',hz',rfl⟩:=List.mem_map.1 hz;exact e2 _ (List.mem_map_of_mem hz')
end
end
end Go.Proofs.YtecneflbncjhpaaGreatDoor
