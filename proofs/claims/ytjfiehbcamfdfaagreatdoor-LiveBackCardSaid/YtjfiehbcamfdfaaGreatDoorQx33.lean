/-
  Parts of the proof.
-/
import Derived.Test.YtjfiehbcamfdfaaGreatDoorQx32
namespace Go.Proofs.YtjfiehbcamfdfaaGreatDoor
section
def Km (l:List Pc):Prop:=∀x∈l,x.pts.length<=30
theorem Pv {l:List Qt}(h:okB l=true):l.length<=30:=by
 unfold okB at h;simp only[Bool.and_eq_true,decide_eq_true_eq] at h;exact h.1
theorem a0C {m:Mv}{q q':List Qt}(h:Tv m q=some q'):q'.length=q.length:=by
 unfold Tv at h;split at h
 ·cases h;rw[List.length_map]
 ·cases h
theorem a0D {M:Dm}{n:Int}{q:List Qt}(h:Mq M n=.ok q):q.length<=30:=by
 unfold Mq mG at h
 repeat' split at h
 all_goals try cases h
 next hb=>exact Pv hb.2.2
theorem Xi {M:Dm}{n:Int}{q:List Qt}(h:yh M n=.ok q):q.length<=30:=by
 unfold yh Aw at h
 repeat' split at h
 all_goals try cases h
 ·exact Nat.zero_le _
 ·next hb=>exact Pv hb
theorem Pw {α:Type}(g:Nat×List Pc->α->Except Ft (Nat×List Pc))(hg:∀s x s',g s x=.ok s'->Km s.2->Km s'.2):∀(l:List α) (s s':Nat×List Pc),l.foldlM g s=.ok s'->Km s.2->Km s'.2
 |[],s,s',h,h0=>by cases h;exact h0
 |x::l,s,s',h,h0=>by
  rw[List.foldlM_cons] at h;cases hx:g s x with
  |error e=>rw[hx] at h;cases h
  |ok t=>
   rw[hx] at h;exact Pw g hg l t s' h (hg s x t hx h0)
theorem Gp (M:Dm)(l:List Rl):∀(f:Nat) (n:Int) (path:List Int) (m:Mv) (st s':Nat×List Pc),dm M l f n path m st=.ok s'->Km st.2->Km s'.2
 |0,n,path,m,st,s',h,_=>by
  unfold dm at h;split at h<;>cases h
 |f+1,n,path,m,st,s',h,h0=>by
  unfold dm at h;split at h
  ·cases h
  split at h
  ·cases h
  split at h
  ·cases h;exact h0
  have PC:∀(m':Mv) (x:Except Nat (List Qt)),(∀q,x=.ok q->q.length<=30)->gK M l n m' x (st.1+1,st.2)=.ok s'->Km s'.2:=fun m' x hx h=>by
   unfold gK at h;split at h
   ·cases h
   ·next q=>
    split at h
    ·cases h
    ·next q' hq=>
     split at h
     ·cases h;exact h0
     ·cases h;intro y hy;rcases List.mem_append.1 hy with hy|hy
      ·exact h0 y hy
      ·simp at hy;subst hy;show q'.length<=30;rw[a0C hq];exact hx q rfl
  split at h
  ·cases h
  ·split at h
   ·exact PC _ _ (fun q hq=>a0D hq) h
   ·split at h
    ·exact PC _ _ (fun q hq=>Xi hq) h
    ·split at h
     ·exact Pw _ (fun s x s' h=>Gp M l f x _ _ s s' h) _ (st.1+1,st.2) s' h h0
     ·split at h
      ·cases h
      ·exact Gp M l f _ _ _ (st.1+1,st.2) s' h h0
theorem Sq {M:Dm}{rl:List Rl}{l:List Pc}(hp:di M rl=.ok l):Km l:=by
 unfold di at hp;cases hc:dm M rl 101 0 [-1] .one (0,[]) with
 |error e=>rw[hc] at hp;cases hp
 |ok st=>
  rw[hc] at hp;have hl:=Except.ok.inj hp;rw[<- hl];have h1:=Gp M rl 101 0 [-1] .one (0,[]) st hc (fun x hx=>by cases hx);intro x hx;unfold tH at hx;obtain⟨k, -,h2⟩:=List.mem_flatMap.1 hx;exact h1 x (List.mem_filter.1 h2).1
end
section
open Go.RowKit
set_option maxHeartbeats 8000000
set_option maxRecDepth 20000
abbrev Sr (a b:List bZ)(h:Nat):List Int:=(gL (a.map bZ.pc) (b.map bZ.pc) h).map fun(y:Nat)=>(y:Int)
def DoR (W:World)(LB B:Nat)(tg:cz)(DB MB:Nat)(p:Int->Option Nat)(M:Dm)(nx c:Nat)(r:Int->Nat)(rl:List Rl)(rv:Value)(qs:List bZ)(pv:Value)(w h:Nat)(cv:Value)(AE RE:Prop)(AO:Dm->Nat->Nat->(Int->Nat)->Prop)(rl':List Rl)(e:Ending)(w':World):Prop:=
 ((∃t u,e=.returned (.tuple #[.slice none 0 0,.iface t u]))/\Below W.heap.size W w'/\Yu w' LB B tg DB MB p M nx c r rl rv qs pv w h cv/\(AE\/RE\/∃M2 lN c2 r2,AO M2 lN c2 r2/\¬vW M2 rl'))\/
 (∃vz MB2 p2 M2 lN c2 r2 rv2 uG pv2 cv2 o n cp,AO M2 lN c2 r2/\vW M2 rl'/\K2 LB DB W w'/\e=.returned (.tuple #[.slice o n cp,.nilIface])/\w'.ownsRow W.heap.size 3 1 (.slice o n cp) (Sr qs uG h).length (bY (Sr qs uG h))/\Yu w' LB B vz DB MB2 p2 M2 lN c2 r2 rl' rv2 uG pv2 w h cv2)
section
variable {E:Nat->Addr}{W:World}{LB B:Nat}{tg:cz}{DB MB:Nat}{p:Int->Option Nat}{M:Dm}{nx c:Nat}{r:Int->Nat}{rl:List Rl}{rv:Value}{qs:List bZ}{pv:Value}{w h:Nat}{cv:Value}
structure Px (Y:World)(LB:Nat)(cs:Array Value)(t:TypeId)(Z:World):Prop where
 lb:Z.heap[LB]? =some (.cells cs t)
 ne:∀b,b≠LB->Z.heap[b]? =Y.heap[b]?
 sz:Z.heap.size=Y.heap.size
 os:Z.os=Y.os
 tape:Z.tape=Y.tape
 out:Z.output=Y.output
theorem Px.set {Y Z:World}{LB:Nat}{cs:Array Value}{t:TypeId}{i:Nat}{v:Value}(h:Px Y LB cs t Z):Px Y LB (cs.setIfInBounds i v) t (Z.setCell ⟨LB,i,none⟩ v):=by
 have hs:=(Below.refl LB Z).setCell (p:=⟨LB,i,none⟩) Nat.le.refl v;exact⟨heap_setCell_same Z LB i _ _ _ h.lb,fun b hb=>(Below.heap_setCell _ _ _ b hb).trans (h.ne b hb),(World.size_setCell _ _ _).trans h.sz,hs.os.trans h.os,hs.tape.trans h.tape,hs.output.trans h.out⟩
theorem Px.drew {Y Z:World}{LB:Nat}{cs:Array Value}{t:TypeId}(h:Px Y LB cs t Z):Px Y LB cs t Z.drew:=⟨h.lb,h.ne,h.sz,h.os,h.tape,h.out⟩
theorem Px.self {Y:World}{LB:Nat}{cs:Array Value}{t:TypeId}(h:Y.heap[LB]? =some (.cells cs t)):Px Y LB cs t Y:=⟨h,fun _ _=>rfl,rfl,rfl,rfl,rfl⟩
theorem Cg {w w':World}{base k n:Nat}{t:TypeId}{v:Value}{xs:List Value}(h:w.ownsRow base t k v n xs)(hs:∀(g:Nat) (cs:Array Value) (f:Nat×Nat),w.heap[g]? =some (Obj.cells cs t f)->w'.heap[g]? =w.heap[g]?):w'.ownsRow base t k v n xs:=
 bS h fun g hg=>by obtain⟨cs,f,h1, -⟩:=dJ h g hg;exact hs g cs f h1
theorem a0E {x:bZ}(h:iJ (dY x.pc)):x.pts.length<=1000:=by
 have h1:x.pts.length<=30:=h.1.1;omega
theorem a4w (a b:List bZ)(y:Nat):(!decide ((wZ (a.map bZ.pc) y).map nI=(wZ (b.map bZ.pc) y).map nI))=false↔sP ((a.map bZ.p5).filter fun x=>aC x.s.pts y)=sP ((b.map bZ.p5).filter fun x=>aC x.s.pts y):=by
 have e1:∀l:List bZ,sP ((l.map bZ.p5).filter fun x=>aC x.s.pts y)=(wZ (l.map bZ.pc) y).map dY:=fun l=>by
  rw[<- Mr,List.filter_map,List.map_map,sP,List.map_map,List.filter_map];rfl
 rw[e1,e1];simp only[Bool.not_eq_false',decide_eq_true_eq];constructor
 ·exact fun hh=>OL hh
 ·intro hh;have e2:∀l:List Pc,l.map nI=(l.map dY).map fun s=>(s.fill.toList,s.rule.toList,s.pts):=fun l=>by
   rw[List.map_map];refine List.map_congr_left fun x _=>?_;simp[nI,dY,ByteArray.toList_eq]
  rw[e2,e2,hh]
theorem a4x (hE:LE E W)(hl:Yu W LB B tg DB MB p M nx c r rl rv qs pv w h cv)(hw1:1<=w)(hw:w<=40)(AZ:1<=h)(hh:h<=40)(x:Ed)(AE RE:Prop)(AO:Dm->Nat->Nat->(Int->Nat)->Prop)(rl':List Rl)(a8x:∀y∈rl',RlG y)
  (hAp:∀N V qi qo vX p1,W.heap.size<=N->Below W.heap.size W V->gN N qi V qo vX p1 M nx c r->ak 29 #[aj qo,.agg (zg x)] V fun e w'=>Below N V w'/\((AE/\∃t u,e=.returned (.iface t u))\/(e=.returned .nilIface/\∃vz p2 M2 lN c2 r2,AO M2 lN c2 r2/\dP M2/\gN N vz w' qo vX p2 M2 lN c2 r2)))
  (hRb:∀V,Below W.heap.size W V->ak 30 #[rv,.agg (zg x)] V fun e w'=>Below V.heap.size V w'/\((RE/\∃u t y,e=.returned (.tuple #[u,.iface t y]))\/∃o n cp,e=.returned (.tuple #[.slice o n cp,.nilIface])/\w'.ownsRow B 110 3 (.slice o n cp) rl'.length (fH rl'))):
  ak 11 #[aj LB,.agg (zg x)] W fun e w'=>DoR W LB B tg DB MB p M nx c r rl rv qs pv w h cv AE RE AO rl' e w':=by
 obtain⟨GK,GL,Wj⟩:=aI hl.row;obtain⟨opv,cpv,hpv⟩:=aI hl.pc.own;obtain⟨Xj,Xk,hcv⟩:=aI hl.Xe;subst Wj hpv hcv;have b0:=aW W (.cells (zg x) 45);have kb:=dh W (zg x) 45;go_enter Tryz.func11,Tryz.ntmps11;go_upto_region 1 with fail;obtain⟨U,hU⟩:∃U,W.alloc (.cells (zg x) 45)=U:=⟨_,rfl⟩;rw[hU] at b0 kb⊢;clear hU;have hlU:=hl.below b0;have l0:=aA hlU.lb 0 _ rfl;have CL:ak 28 #[aj DB] U fun e w1=>∃qo vX qi p1,e=.returned (aj qo)/\Below U.heap.size U w1/\Hid (gN U.heap.size qi w1 qo vX p1 M nx c r):=(Sm hlU.ds.w hlU.ds.n (hl.ok.cl hl.ds)).mono fun e w1 ⟨h1,qo,vX,qi,p1,h2,h3⟩=>⟨qo,vX,qi,p1,h2,h1,h3,hl.ds.d,hl.ds.n,hl.ds.le,h1.size⟩;go_upto_region 2 with(go_at_call 28;refine CL.mono ?_;rintro e w1 ⟨qo,vX,qi,p1,rfl,b1,hd1⟩);have tV:=az b0 b1;have AP:=hAp U.heap.size w1 qi qo vX p1 b0.size tV hd1.out;have kb1:=(b1.block _ (aD kb)).trans kb;obtain⟨e0,e1,e2,e3,e4,e5⟩:=Yv.of kb1;clear l0 CL hlU hAp hd1;go_upto_region 3 with(go_at_call 29;refine AP.mono ?_;rintro e w2 ⟨b2,h2⟩;obtain⟨v2,rfl,hv2⟩:∃v,e=.returned v/\((AE/\∃t u,v=.iface t u)\/(v=.nilIface/\∃vz p2 M2 lN c2 r2,AO M2 lN c2 r2/\dP M2/\gN U.heap.size vz w2 qo vX p2 M2 lN c2 r2)):=(by rcases h2 with⟨k1,t,u,k2⟩|⟨k1,k2⟩;exact⟨_,k2,.inl ⟨k1,t,u,rfl⟩⟩;exact⟨_,k1,.inr ⟨rfl,k2⟩⟩);clear h2);clear AP e0 e1 e2 e3 e4 e5;have NY:Below W.heap.size W w2:=tV.trans (b2.mono b0.size);rcases hv2 with⟨ha,t,u,rfl⟩|⟨rfl,vz,p2,M2,lN,c2,r2,hao,hok2,hd2⟩
 ·go_wp2_with fail
  go_ret2
  exact .inl ⟨⟨t,u,rfl⟩,NY,hl.below NY,.inl ha⟩
 have sU:=aD kb;have kb2:w2.heap[W.heap.size]? =some (.cells (zg x) 45):=(b2.block _ sU).trans kb1;have k2:=Yv.of kb2;have lb2:=(NY.block _ (aD hl.lb)).trans hl.lb;have RB:=(hRb w2.drew (below_drewN NY 1)).mono (R':=fun e w3=>∃v u,e=.returned (.tuple #[v,u])/\Below w2.heap.size w2 w3/\((RE/\∃t y,u=.iface t y)\/(u=.nilIface/\∃o n cp,v=.slice o n cp/\w3.ownsRow B 110 3 (.slice o n cp) rl'.length (fH rl')))) fun e w3 ⟨q1,q2⟩=>by
  have q1':Below w2.heap.size w2 w3:=⟨q1.os,q1.tape,q1.output,q1.size,q1.block⟩;rcases q2 with⟨q2,u,t,y,q3⟩|⟨o,n,cp,q3,q4⟩
  ·exact⟨_,_,q3,q1',.inl ⟨q2,t,y,rfl⟩⟩
  ·exact⟨_,_,q3,q1',.inr ⟨rfl,o,n,cp,rfl,q4⟩⟩
 obtain⟨e0,e1,e2,e3,e4,e5⟩:=k2;have l1:=aA lb2 1 _ rfl;have HD2:Hid (gN U.heap.size vz w2 qo vX p2 M2 lN c2 r2):=hd2;have HL:Hid (Yu W LB B tg DB MB p M nx c r rl (.slice GK rl.length GL) qs (.slice opv qs.length cpv) w h (.slice Xj (w*h) Xk)):=hl;clear hRb hd2 hl kb kb1;go_upto_region 5 with fail
 go_cut [8,9] from 24 to 32 (fun v u wx=>Below w2.heap.size w2 wx/\((RE/\∃t y,u=.iface t y)\/(u=.nilIface/\∃o n cp,v=.slice o n cp/\wx.ownsRow B 110 3 (.slice o n cp) rl'.length (fH rl'))))
 case first=>
  go_region_with (go_at_call 30;refine RB.mono ?_;rintro e w3 ⟨v3,u3,rfl,b3,h3⟩)
  all_goals go_wp2_with fail
  all_goals go_meet
  all_goals exact⟨b3,h3⟩
 case rest=>
  clear RB l1 e0 e1 e2 e3 e4 e5;obtain⟨b3,h3⟩:=hcut;have wC:=az NY b3;rcases h3 with⟨hre,t,y,rfl⟩|⟨rfl,o3,n3,cp3,rfl,yK⟩
  ·go_wp2_with fail
   go_ret2
   exact .inl ⟨⟨t,y,rfl⟩,wC,HL.out.below wC,.inr (.inl hre)⟩
  have hd3:=HD2.out.below b3;have PI:=Cb (l:=rl') (B0:=B) ⟨hd3,(hE.below wC).ne,hok2.fit.1,hok2.fit.2,a8x,yK⟩;obtain⟨pm,hpm⟩:∃x,di M2 rl'=x:=⟨_,rfl⟩;rw[hpm] at PI;have Sk:Hid (di M2 rl'=pm):=hpm;clear hpm;cases pm with
  |error ft=>
   have PI':=PI.mono (R':=fun e w4=>∃pb,e=.returned (.tuple #[.slice none 0 0,.iface 113 (aj pb)])/\Below wc.heap.size wc w4) fun e w4 ⟨⟨u,h1,pb,_,h2,_⟩,h4⟩=>⟨pb,by rw[h1,h2],h4⟩;clear PI;go_wp2_with(go_at_call 26;refine PI'.mono ?_;rintro e w4 ⟨pb,rfl,b4⟩)
   go_ret2
   have bw4:=az wC b4;exact .inl ⟨⟨_,_,rfl⟩,bw4,HL.out.below bw4,.inr (.inr ⟨M2,lN,c2,r2,hao,fun⟨l,h1,_⟩=>by rw[Sk.out] at h1;exact absurd h1 (by simp)⟩)⟩
  |ok l=>
   have PI':=PI.mono (R':=fun e w4=>∃uG o4 n4 c4,e=.returned (.tuple #[.slice o4 n4 c4,.nilIface])/\Hid (uG.map bZ.pc=l)/\uA w4 wc.heap.size (.slice o4 n4 c4) uG/\Below wc.heap.size wc w4) fun e w' ⟨⟨qs,v,h1,h2,h3,h4,h5⟩,h6⟩=>by
    obtain⟨o,cp,rfl⟩:=aI h3;exact⟨qs,o,_,cp,h2,h1,⟨h3,h4,h5⟩,h6⟩
   clear PI;go_upto_region 11 with(go_at_call 26;refine PI'.mono ?_;rintro e w4 ⟨uG,o4,n4,c4,rfl,q4,p4,b4⟩);have bw4:=az wC b4;have lb4:=(bw4.block _ (aD HL.out.lb)).trans HL.out.lb;have l2:=aA lb4 2 _ rfl;have l4:=aA lb4 4 _ rfl;have hq2:uG.length<=1000:=by have h1:=Cc Sk.out;rw[<- q4.out,List.length_map] at h1;exact h1
   have ad3:∀y∈uG.map bZ.p5,y.s.pts.length<=1000:=fun y hy=>by
    obtain⟨z,hz,rfl⟩:=List.mem_map.1 hy;have h1:=Sq Sk.out z.pc (by rw[<- q4.out];exact List.mem_map_of_mem hz);exact Nat.le_trans h1 (by omega)
   have ad4:∀y∈qs.map bZ.p5,y.s.pts.length<=1000:=fun y hy=>by
    obtain⟨z,hz,rfl⟩:=List.mem_map.1 hy;exact a0E (HL.out.pk z hz)
   have CR:ak 31 #[.slice opv qs.length cpv,.slice o4 n4 c4,aa h] w4.drew fun e w5=>∃o n cp,e=.returned (.slice o n cp)/\w5.ownsRow w4.heap.size 3 1 (.slice o n cp) (Sr qs uG h).length (bY (Sr qs uG h))/\Below w4.heap.size w4 w5:=by
    obtain⟨oA,cA,hA1,hA2,hA3⟩:=(HL.out.pc.below (below_drewN bw4 1)).row;obtain⟨oB,cB,hB1,hB2,hB3⟩:=(p4.below (below_drewN (Below.refl _ _) 1)).row;rw[hA1,hB1];refine(yN (E 2) (E 3) (E 3) _ _ oA oB cA cB h (fun y=> !decide ((wZ (qs.map bZ.pc) y).map nI=(wZ (uG.map bZ.pc) y).map nI)) w4.drew (by rw[List.length_map];exact HL.out.ql) (by rw[List.length_map];exact hq2) hA2 hB2 hA3 hB3 ad4 ad3 (hE.below (below_drewN bw4 1)).ep.e3 (by omega) (a4w qs uG)).mono fun e w5 ⟨v,h1,h2,h3⟩=>?_;obtain⟨o,cp,rfl⟩:=aI h2;exact⟨o,_,cp,h1,h2,⟨h3.os,h3.tape,h3.output,h3.size,h3.block⟩⟩
   go_cut [11] from 45 to 55 (fun v wx=>∃o n cp,v=.slice o n cp/\wx.ownsRow w4.heap.size 3 1 (.slice o n cp) (Sr qs uG h).length (bY (Sr qs uG h))/\Below w4.heap.size w4 wx)
   case first=>
    go_region_with (go_at_call 31;refine CR.mono ?_;rintro e w5 ⟨o5,n5,c5,rfl,pQ,b5⟩)
    all_goals go_wp2_with fail
    all_goals go_meet
    all_goals exact⟨_,_,_,rfl,pQ,b5⟩
   case rest=>
    obtain⟨o5,n5,c5,rfl,pQ,b5⟩:=hcut;clear CR l2 l4;have bw5:=az bw4 b5;have lb5:=(bw5.block _ (aD HL.out.lb)).trans HL.out.lb;have l3:=aA lb5 3 _ rfl;have l4:=aA lb5 4 _ rfl;have l5:=aA lb5 5 _ rfl;have hup:=Vq (qs.map bZ.pc) (uG.map bZ.pc) h;have PA:ak 32 #[.agg #[aa w,aa h,.slice Xj (w*h) Xk],.slice o4 n4 c4,.slice o5 n5 c5] wc fun e w6=>Below wc.heap.size wc w6/\(((∀x∈uG,iJ (dY x.pc))/\∃g cp,e=.returned (.tuple #[.agg #[aa w,aa h,.slice (some ⟨g,0,none⟩) (w*h) cp],.nilIface])/\Hid (w6.ownsRow wc.heap.size 9 1 (.slice (some ⟨g,0,none⟩) (w*h) cp) (w*h) ((iZ aC ((uG.map bZ.pc).map dY) w h).map .string)))\/((¬∀x∈uG,iJ (dY x.pc))/\∃a,e=.returned (.tuple #[.agg #[aa 0,aa 0,.slice none 0 0],.iface 113 (.pointer (some a))]))):=by
     obtain⟨oB,cB,hB1,hB2,hB3⟩:=(p4.below b5).row;rw[hB1];refine(yM (E 2) (E 3) (E 3) (E 10) (uG.map bZ.p5) oB cB w h _ B (.slice Xj (w*h) Xk) (gL (qs.map bZ.pc) (uG.map bZ.pc) h) w4.heap.size (.slice o5 n5 c5) wc hw1 hw AZ hh (by rw[List.length_map];exact hq2) hB2 hB3 (hE.below bw5).ep (aK HL.out.Xe bw5) (gF _ _ _ _) (by simpa using pQ) (Nat.le_trans (List.length_filter_le _ _) (by rw[List.length_range];omega)) hup.2).mono fun e w6 ⟨h1,h2⟩=>⟨h2,?_⟩;have hok:jq (uG.map bZ.p5)↔∀x∈uG,iJ (dY x.pc):=by
      unfold jq;constructor
      ·intro hh x hx;exact hh _ (List.mem_map_of_mem hx)
      ·intro hh x hx;obtain⟨y,hy,rfl⟩:=List.mem_map.1 hx;exact hh y hy
     rcases h1 with⟨h3,v,h4,h5⟩|⟨h3,a,h4⟩
     ·obtain⟨g,cp,rfl, -, -⟩:=h5.form (Nat.mul_pos hw1 AZ);rw[a1M,<- EA,Vs] at h5;exact .inl ⟨hok.1 h3,g,cp,h4,h5⟩
     ·exact .inr ⟨fun hh=>h3 (hok.2 hh),a,h4⟩
    by_cases hk:∀x∈uG,iJ (dY x.pc)
    ·have PA':=PA.mono (R':=fun e w6=>∃g cp,e=.returned (.tuple #[.agg #[aa w,aa h,.slice (some ⟨g,0,none⟩) (w*h) cp],.nilIface])/\Below wc.heap.size wc w6/\Hid (w6.ownsRow wc.heap.size 9 1 (.slice (some ⟨g,0,none⟩) (w*h) cp) (w*h) ((iZ aC ((uG.map bZ.pc).map dY) w h).map .string))) fun e w6 ⟨h1,h2⟩=>by
      rcases h2 with⟨-,g,cp,h3,h4⟩|⟨h2, -⟩
      ·exact⟨g,cp,h3,h1,h4⟩
      ·exact absurd hk h2
     have HK:Hid (∀x∈uG,iJ (dY x.pc)):=hk;clear PA hk;go_upto_region 15 with(go_at_call 32;refine PA'.mono ?_;rintro e w6 ⟨g6,c6,rfl,b6,Le⟩);have bX:=aW w6 (.cells #[aa w,aa h,.slice (some ⟨g6,0,none⟩) (w*h) c6] 40);have pX:=dh w6 #[aa w,aa h,.slice (some ⟨g6,0,none⟩) (w*h) c6] 40;obtain⟨X,hX⟩:∃X,w6.alloc (.cells #[aa w,aa h,.slice (some ⟨g6,0,none⟩) (w*h) c6] 40)=X:=⟨_,rfl⟩;rw[hX] at bX pX⊢;have b5X:=az b6 bX;have b4X:=az b5 b5X;have b3X:=az b4 b4X;have We:=az bw5 b5X;have lbX:=(We.block _ (aD HL.out.lb)).trans HL.out.lb;have Xl:=(We.block _ (aD HL.out.ds.w.doc)).trans HL.out.ds.w.doc;have dX:=HD2.out.below (az b3 b3X);have d1X:=dX.w.doc;have hne:LB≠DB:=fun e1=>by rw[e1,Xl] at lbX;cases lbX
     have hLW:=aD HL.out.lb;have hDW:=aD HL.out.ds.w.doc;have hD1:=(dX.w.low _ _ dX.w.jP).1;have hPW:W.heap.size<=w6.heap.size:=(az bw5 b6).size;obtain⟨PB,hPB⟩:∃PB,w6.heap.size=PB:=⟨_,rfl⟩;rw[hPB] at pX hPW⊢;have x0:X.drew.cell? (ag LB 0)=some (aj DB):=aA lbX 0 _ rfl;have x1:X.drew.cell? (ag qo 0)=some (.map (some vX)):=aA d1X 0 _ rfl;have x2:X.drew.cell? (ag qo 1)=some (aa lN):=aA d1X 1 _ rfl;have x3:X.drew.cell? (ag DB 0)=some (.map (some MB)):=aA Xl 0 _ rfl;have x4:X.drew.cell? (ag DB 1)=some (aa nx):=aA Xl 1 _ rfl;have x5:X.drew.frozen? ⟨DB,0,none⟩=false:=dF Xl 0;have x6:X.drew.frozen? ⟨DB,1,none⟩=false:=dF Xl 1;have y0:X.cell? (ag LB 0)=some (aj DB):=aA lbX 0 _ rfl;have y1:X.cell? (ag qo 0)=some (.map (some vX)):=aA d1X 0 _ rfl;have y2:X.cell? (ag qo 1)=some (aa lN):=aA d1X 1 _ rfl;have y3:X.cell? (ag DB 0)=some (.map (some MB)):=aA Xl 0 _ rfl;have y4:X.cell? (ag DB 1)=some (aa nx):=aA Xl 1 _ rfl;have y5:X.frozen? ⟨DB,0,none⟩=false:=dF Xl 0;have y6:X.frozen? ⟨DB,1,none⟩=false:=dF Xl 1;have HX:Hid (w6.alloc (.cells #[aa w,aa h,.slice (some ⟨g6,0,none⟩) (w*h) c6] 40)=X):=hX;clear hX hPB;go_region;have yz:∃cs,Px X DB cs 85 ((X.setCell ⟨DB,0,none⟩ (.map (some vX))).setCell ⟨DB,1,none⟩ (aa lN)).drew/\cs=#[.map (some vX),aa lN]:=⟨_,((Px.self Xl).set.set).drew,rfl⟩;obtain⟨cs1,yz,hcs1⟩:=yz;subst hcs1;obtain⟨Y,hY⟩:∃Y,((X.setCell ⟨DB,0,none⟩ (.map (some vX))).setCell ⟨DB,1,none⟩ (aa lN)).drew=Y:=⟨_,rfl⟩;rw[hY] at yz⊢;clear hY x0 x1 x2 x3 x4 x5 x6 y0 y1 y2 y3 y4 y5 y6;have Xm:=(yz.ne LB hne).trans lbX;have pY:=(yz.ne PB (by omega)).trans pX;have a1R:∀Z,Px Y LB #[aj DB,.slice o3 n3 cp3,.slice o4 n4 c4,aa w,aa h,.slice (some ⟨g6,0,none⟩) (w*h) c6] 77 Z->DoR W LB B tg DB MB p M nx c r rl (.slice GK rl.length GL) qs (.slice opv qs.length cpv) w h (.slice Xj (w*h) Xk) AE RE AO rl' (.returned (.tuple #[.slice o5 n5 c5,.nilIface])) Z:=fun Z hz=>by
      have zn:∀b,b≠LB->b≠DB->Z.heap[b]? =X.heap[b]? :=fun b h1 h2=>(hz.ne b h1).trans (yz.ne b h2);have zs:Z.heap.size=X.heap.size:=hz.sz.trans yz.sz;have tyk:∀(g:Nat) (cs:Array Value) (t:TypeId) (f:Nat×Nat),X.heap[g]? =some (Obj.cells cs t f)->t≠77->t≠85->Z.heap[g]? =X.heap[g]? :=fun g cs t f h1 h2 h3=>zn g (fun e1=>by rw[e1,lbX] at h1;cases h1;exact h2 rfl) (fun e1=>by rw[e1,Xl] at h1;cases h1;exact h3 rfl);have dbZ:Z.heap[DB]? =some (.cells #[.map (some vX),aa lN] 85):=(hz.ne DB (fun e1=>hne e1.symm)).trans yz.lb;have hbB:B<=W.heap.size:=by have h1:=HL.out.base;omega
      have ad8:=(HL.out.ds.w.low _ _ HL.out.ds.w.jP).1;have zk:K2 LB DB W Z:=⟨hz.os.trans (yz.os.trans We.os),hz.tape.trans (yz.tape.trans We.tape),hz.out.trans (yz.out.trans We.output),by rw[zs];exact We.size,fun b hb h1 h2=>(zn b h1 h2).trans (We.block b hb)⟩;have hw:=dX.w.home (B':=B) (Z:=Z) (DB:=DB) ad8 (by have:=b0.size;omega) (fun b hb=>zn b (by have:=b0.size;omega) (by have:=b0.size;omega)) dbZ (by rw[zs];exact Nat.le_refl _);refine .inr ⟨_,vX,p2,M2,lN,c2,r2,.slice o3 n3 cp3,uG,.slice o4 n4 c4,.slice (some ⟨g6,0,none⟩) (w*h) c6,o5,n5,c5,hao,⟨l,Sk.out,fun y hy=>?_⟩,zk,rfl,?_,⟨hz.lb,HL.out.base,⟨hw,dX.d,dX.n,dX.le,by rw[zs];exact Nat.le_trans hbB We.size⟩,hok2,a8x,?_,⟨?_,fun y hy=>?_,p4.rt⟩,by rw[q4.out];exact Sk.out,HK.out,hq2,?_⟩⟩
      ·rw[<- q4.out] at hy;obtain⟨z,hz',rfl⟩:=List.mem_map.1 hy;exact HK.out z hz'
      ·exact eu (Cg (aK pQ b5X) fun g cs f hg=>tyk g cs _ f hg (by decide) (by decide)) bw4.size
      ·exact Cg (aK yK b3X) fun g cs f hg=>tyk g cs _ f hg (by decide) (by decide)
      ·exact eu (Cg (aK p4.own b4X) fun g cs f hg=>tyk g cs _ f hg (by decide) (by decide)) (Nat.le_trans hbB wC.size)
      ·exact eu (Cg (aK (p4.pts y hy) b4X) fun g cs f hg=>tyk g cs _ f hg (by decide) (by decide)) (Nat.le_trans hbB wC.size)
      ·exact eu (Cg (aK Le.out bX) fun g cs f hg=>tyk g cs _ f hg (by decide) (by decide)) (Nat.le_trans hbB bw5.size)
     have HFI:Hid (∀Z,Px Y LB #[aj DB,.slice o3 n3 cp3,.slice o4 n4 c4,aa w,aa h,.slice (some ⟨g6,0,none⟩) (w*h) c6] 77 Z->DoR W LB B tg DB MB p M nx c r rl (.slice GK rl.length GL) qs (.slice opv qs.length cpv) w h (.slice Xj (w*h) Xk) AE RE AO rl' (.returned (.tuple #[.slice o5 n5 c5,.nilIface])) Z):=a1R;clear a1R;have y1:=aA Xm 1 _ rfl;have y2:=aA Xm 2 _ rfl;have y3:=aA Xm 3 _ rfl;have y4:=aA Xm 4 _ rfl;have y5:=aA Xm 5 _ rfl;have f1:=dF Xm 1;have f2:=dF Xm 2;have f3:=dF Xm 3;have f4:=dF Xm 4;have f5:=dF Xm 5;have p1:=aA pY 0 _ rfl;have p2:=aA pY 1 _ rfl;have p3:=aA pY 2 _ rfl;have hpl:¬PB=LB:=by omega
     have hpl':¬LB=PB:=by omega
     go_upto_region 16 with fail;go_region;have hz:∃cs,Px Y LB cs 77 (((((Y.setCell ⟨LB,1,none⟩ (.slice o3 n3 cp3)).setCell ⟨LB,2,none⟩ (.slice o4 n4 c4)).setCell ⟨LB,3,none⟩ (aa w)).setCell ⟨LB,4,none⟩ (aa h)).setCell ⟨LB,5,none⟩ (.slice (some ⟨g6,0,none⟩) (w*h) c6)).drew/\cs=#[aj DB,.slice o3 n3 cp3,.slice o4 n4 c4,aa w,aa h,.slice (some ⟨g6,0,none⟩) (w*h) c6]:=⟨_,((Px.self Xm).set.set.set.set.set).drew,rfl⟩;obtain⟨cs2,hz,hcs2⟩:=hz;subst hcs2;have HZ:Hid (DoR W LB B tg DB MB p M nx c r rl (.slice GK rl.length GL) qs (.slice opv qs.length cpv) w h (.slice Xj (w*h) Xk) AE RE AO rl' (.returned (.tuple #[.slice o5 n5 c5,.nilIface])) (((((Y.setCell ⟨LB,1,none⟩ (.slice o3 n3 cp3)).setCell ⟨LB,2,none⟩ (.slice o4 n4 c4)).setCell ⟨LB,3,none⟩ (aa w)).setCell ⟨LB,4,none⟩ (aa h)).setCell ⟨LB,5,none⟩ (.slice (some ⟨g6,0,none⟩) (w*h) c6)).drew):=HFI.out _ hz;clear hz HFI;go_wp2_with fail
     go_ret2
     exact HZ.out
    ·have PA':=PA.mono (R':=fun e w6=>∃a,e=.returned (.tuple #[.agg #[aa 0,aa 0,.slice none 0 0],.iface 113 (.pointer (some a))])/\Below wc.heap.size wc w6) fun e w6 ⟨h1,h2⟩=>by
      rcases h2 with⟨h2, -⟩|⟨-,a,h3⟩
      ·exact absurd h2 hk
      ·exact⟨a,h3,h1⟩
     have EE:Hid (¬vW M2 rl'):=(fun⟨l',h1,h2⟩=>by
      rw[Sk.out] at h1;have h3:=Except.ok.inj h1;subst h3;exact hk (fun y hy=>h2 y.pc (by rw[<- q4.out];exact List.mem_map_of_mem hy)):¬vW M2 rl')
     clear PA hk;go_wp2_with(go_at_call 32;refine PA'.mono ?_;rintro e w6 ⟨a6,rfl,b6⟩)
     go_ret2
     have bw6:=az bw5 (az b6 (aW w6 (.cells #[aa 0,aa 0,.slice none 0 0] 40)));exact .inl ⟨⟨_,_,rfl⟩,bw6,HL.out.below bw6,.inr (.inr ⟨M2,lN,c2,r2,hao,EE.out⟩)⟩
end
end
end Go.Proofs.YtjfiehbcamfdfaaGreatDoor
