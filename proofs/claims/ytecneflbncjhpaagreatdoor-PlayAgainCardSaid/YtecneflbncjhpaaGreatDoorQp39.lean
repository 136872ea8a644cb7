/- Parts of the proof. -/
import Derived.Test.YtecneflbncjhpaaGreatDoorQp38
namespace Go.Proofs.YtecneflbncjhpaaGreatDoor
open Go.Proofs.Tryz
set_option maxHeartbeats 8000000
section
open Go.RowKit
set_option maxRecDepth 20000
theorem Up.same {M:Dm}:∀{d d':Nat} {i:Int},Up M i d->Up M i d'->d=d'
 |0,0,_,_,_=>rfl
 |0,_+1,_,h,h'=>by
  unfold Up at h h';obtain⟨e,he, -⟩:=h';rw[h] at he;cases he
 |_+1,0,_,h,h'=>by
  unfold Up at h h';obtain⟨e,he, -⟩:=h;rw[h'] at he;cases he
 |d+1,d'+1,_,h,h'=>by
  unfold Up at h h';obtain⟨e,he,h1⟩:=h;obtain⟨e',he',h2⟩:=h';rw[he] at he';cases he';exact congrArg Nat.succ (Up.same h1 h2)
def ApF (E:Nat->Addr)(x:Ed)(M:Dm)(nx c k:Nat)(M2:Dm)(l7 c2:Nat):Prop:=∀N tg V DB MB p r,LE E V->jm N tg V DB MB p M nx c r->au 104 #[ay DB,.agg (vS x)] V fun e w'=>Below N V w'/\((k≠0/\e=.returned (eV (E k)))\/(k=0/\e=.returned .nilIface/\∃vR p2 r2,jm N vR w' DB MB p2 M2 l7 c2 r2))
def ApX (E:Nat->Addr)(x:Ed)(M:Dm)(nx c:Nat):Prop:=∃k M2 l7 c2,k<=11/\l7<=nx+1/\eG M2/\ApF E x M nx c k M2 l7 c2
section
variable {E:Nat->Addr}{N:Nat}{tg:bP}{V:ag}{DB MB:Nat}{p:Int->Option Nat}{M:Dm}{nx c:Nat}{r:Int->Nat}
theorem mP {kd:Bs}(n m ea:Int)(nm v:Bs)(Q:ah->ag->Prop)
    (h:(kd=MJ/\au 158 #[ay DB,aa n,.string ⟨nm.toArray⟩,.string ⟨v.toArray⟩] (V.alloc (.cells (vS ⟨kd,n,m,ea,nm,v⟩) 145)) fun e w'=>∃u,e=.returned u/\Q u w')\/
      (kd=ng/\au 156 #[ay DB,aa n] (V.alloc (.cells (vS ⟨kd,n,m,ea,nm,v⟩) 145)) fun e w'=>∃u,e=.returned u/\Q u w')\/
      (kd=DU/\au 155 #[ay DB,aa n,aa ea,.string ⟨nm.toArray⟩] (V.alloc (.cells (vS ⟨kd,n,m,ea,nm,v⟩) 145)) fun e w'=>∃y u,e=.returned (.tuple #[y,u])/\Q u w')):
    au 104 #[ay DB,.agg (vS ⟨kd,n,m,ea,nm,v⟩)] V fun e w'=>∃u,e=.returned u/\Q u w':=by
  obtain⟨c0,c1,c2,c3,c4,c5⟩:=EdC.of (dw V (vS ⟨kd,n,m,ea,nm,v⟩) 145);rcases h with⟨rfl,h⟩|⟨rfl,h⟩|⟨rfl,h⟩
  all_goals
    first|unfold MJ at* |unfold ng at* |unfold DU at*
    go_enter func104,ntmps104;go_wp2_with(first|(go_at_call 158;refine h.mono ?_;rintro e w1 ⟨u,rfl,hr⟩)|(go_at_call 156;refine h.mono ?_;rintro e w1 ⟨u,rfl,hr⟩)|(go_at_call 155;refine h.mono ?_;rintro e w1 ⟨y,u,rfl,hr⟩));go_ret;exact⟨u,rfl,hr⟩
end
section
variable {E:Nat->Addr}{M:Dm}{nx c:Nat}
theorem a7e (hM:eG M)(n m ea:Int)(hn:dR n)(nm v:Bs)(hnl:nm.length<=1000000)(hvl:v.length<=1000000):ApX E ⟨MJ,n,m,ea,nm,v⟩ M nx c:=by
 cases hs:UZ M n nm v with
 |error k=>
  have hk:k≠0/\k<=11:=by
   unfold UZ at hs
   repeat' split at hs
   all_goals cases hs
   all_goals exact⟨by decide,by decide⟩
  refine⟨k,M,nx,c,hk.2,Nat.le_succ _,hM,fun N tg V DB MB p r hE h=>?_⟩;have b0:=bT V (.cells (vS ⟨MJ,n,m,ea,nm,v⟩) 145);have ST:=Rw (hE.below b0).de (h.below b0).w (h.below b0).low n hn nm v hnl hvl;rw[hs] at ST;exact(mP n m ea nm v (fun u w'=>Below N V w'/\u=eV (E k)) (.inl ⟨rfl,ST.mono fun e w' ⟨h1,h2⟩=>⟨_,h1,(b0.mono h.low).trans (h2.mono (h.below b0).low),rfl⟩⟩)).mono fun e w' ⟨u,h1,h2,h3⟩=>⟨h2,.inl ⟨hk.1,by rw[h1,h3]⟩⟩
 |ok M2=>
  obtain⟨hM2,hx⟩:=Zg hM M2 hs;refine⟨0,M2,nx,c,by decide,Nat.le_succ _,hM2,fun N tg V DB MB p r hE h=>?_⟩;have b0:=bT V (.cells (vS ⟨MJ,n,m,ea,nm,v⟩) 145);have ST:=Rw (hE.below b0).de (h.below b0).w (h.below b0).low n hn nm v hnl hvl;refine(mP n m ea nm v (fun u w'=>Below N V w'/\u=.nilIface/\∃vR p2 r2,jm N vR w' DB MB p2 M2 nx c r2) (.inl ⟨rfl,ST.mono fun e w' hr=>?_⟩)).mono fun e w' ⟨u,h1,h2,h3,h4⟩=>⟨h2,.inr ⟨rfl,by rw[h1,h3],h4⟩⟩;obtain⟨h1,h2⟩:=a2M.act (h.below b0) hr (Zg hM);rcases h2 with⟨⟨k,h2⟩, -⟩|⟨h2,vR,p2,M3,l7,c2,r2,⟨h3,rfl,rfl,rfl⟩, -,h4⟩
  ·rw[hs] at h2;cases h2
  ·rw[hs] at h3;cases h3;exact⟨_,h2,(b0.mono h.low).trans h1,rfl,vR,p2,_,h4⟩
theorem Vn (hM:eG M)(n m ea:Int)(hn:dR n)(nm v:Bs):ApX E ⟨ng,n,m,ea,nm,v⟩ M nx c:=by
 cases hm:M n with
 |none=>
  refine⟨5,M,nx,c,by decide,Nat.le_succ _,hM,fun N tg V DB MB p r hE h=>?_⟩;have b0:=bT V (.cells (vS ⟨ng,n,m,ea,nm,v⟩) 145);exact(mP n m ea nm v (fun u w'=>Below N V w'/\u=eV (E 5)) (.inr (.inl ⟨rfl,(Ur (hE.below b0).de (h.below b0).w n hn hm).mono fun e w' ⟨h1,h2⟩=>⟨_,h1,by rw[h2];exact b0.mono h.low,rfl⟩⟩))).mono fun e w' ⟨u,h1,h2,h3⟩=>⟨h2,.inl ⟨by decide,by rw[h1,h3]⟩⟩
 |some e=>
  by_cases h0:n=0
  ·subst h0;refine⟨3,M,nx,c,by decide,Nat.le_succ _,hM,fun N tg V DB MB p r hE h=>?_⟩;have b0:=bT V (.cells (vS ⟨ng,0,m,ea,nm,v⟩) 145);exact(mP 0 m ea nm v (fun u w'=>Below N V w'/\u=eV (E 3)) (.inr (.inl ⟨rfl,(LV (hE.below b0).de (h.below b0).w e hm).mono fun e w' ⟨h1,h2⟩=>⟨_,h1,by rw[h2];exact b0.mono h.low,rfl⟩⟩))).mono fun e w' ⟨u,h1,h2,h3⟩=>⟨h2,.inl ⟨by decide,by rw[h1,h3]⟩⟩
  cases ho:M e.parent with
  |none=>exact⟨0,M,nx,c,by decide,Nat.le_succ _,hM,fun N tg V DB MB p r hE h=>by
    obtain⟨o,ho', -⟩:=h.d.up n e hm h0;rw[ho] at ho';cases ho'⟩
  |some o=>
   refine⟨0,nJ (yl M n e o) (dG M 11 n),nx,c-(dG M 11 n).length,by decide,Nat.le_succ _,(hM.out ho).cut _,fun N tg V DB MB p r hE h=>?_⟩;have b0:=bT V (.cells (vS ⟨ng,n,m,ea,nm,v⟩) 145);have hb:=h.below b0;obtain⟨o',ho',hno,_⟩:=h.d.up n e hm h0;rw[ho] at ho';cases ho';have hdp:=h.d.dp 11 n e hm (by omega);have hpre:=h.d.Yr (o:=o) (d:=1) hm h0 hdp;have hfl:dG (yl M n e o) 11 n=dG M 11 n:=by unfold dG;rw[hpre]
   have hL:∀x,x∈dG M 11 n↔Bl M n x:=fun x=>h.d.mem hdp;have hnd:(dG M 11 n).Nodup:=h.d.su 11 n 1;have hv:=h.d.cutV hm ho hL;have hct:=hv.count h.n hnd hL;have hle:=h.le;refine(mP n m ea nm v (fun u w'=>Below N V w'/\u=.nilIface/\∃vR p2 r2,jm N vR w' DB MB p2 (nJ (yl M n e o) (dG M 11 n)) nx (c-(dG M 11 n).length) r2) (.inr (.inl ⟨rfl,(OM hb.w n e o hm h0 ho (List.ne_nil_of_mem hno) 11 (by omega) (dG M 11 n) (h.d.a2b hm ho hdp) hfl (fun k hk=>?_) hnd (by omega)).mono ?_⟩))).mono fun e w' ⟨u,h1,h2,h3,h4⟩=>⟨h2,.inr ⟨rfl,by rw[h1,h3],h4⟩⟩
   ·obtain⟨x,hx⟩:=((hL k).1 hk).in_;obtain⟨x',h1,_⟩:=h.d.Ro hm ho hx;have h1:dZ M e.parent ⟨o.name,o.ats,o.parent,woL o.kids n⟩ k=some x':=h1;rw[h1];simp
   ·rintro e1 w' ⟨rfl,hk,kR,p',ht,hd⟩;exact⟨_,rfl,(b0.mono h.low).trans (hk.below (fun b t hb'=>(hb.w.low b t hb').1) hb.low),rfl,kR,p',r,hd,h.d.cut hv (h.d.top h0),hct.1,by omega,aJ hb.low hk.size⟩
theorem Gu (hM:eG M)(hnx:nx<1000000)(par m:Int)(name v:Bs)(hnm:gG name=true){q:gH}(hq:M par=some q)(hd:¬∃d,10<=d/\Up M par d)(hc:¬100<=c):eG (dZ (dZ M nx ⟨name,[],par,[]⟩) par ⟨q.name,q.ats,q.parent,jl q.kids 0 nx⟩)/\ApF E ⟨DU,par,m,0,name,v⟩ M nx c 0 (dZ (dZ M nx ⟨name,[],par,[]⟩) par ⟨q.name,q.ats,q.parent,jl q.kids 0 nx⟩) (nx+1) (c+1):=by
 refine⟨(hM.put (i:=(nx:Int)) (e:=⟨name,[],par,[]⟩) ⟨hnm,by simp,by simp,by simp⟩).put (i:=par) (e:=⟨q.name,q.ats,q.parent,jl q.kids 0 nx⟩) (hM par q hq),fun N tg V DB MB p r hE h=>?_⟩;have b0:=bT V (.cells (vS ⟨DU,par,m,0,name,v⟩) 145);have hb:=h.below b0;have hkl:=h.few hq;have hu:=h.d.deep _ par q rfl hq;have hrb:=h.d.rb par q hq;have hlt:r par<10:=Nat.lt_of_not_le fun h1=>hd ⟨_,h1,hu⟩;refine(mP par m 0 name v (fun u w'=>Below N V w'/\u=.nilIface/\∃vR p2 r2,jm N vR w' DB MB p2 (dZ (dZ M nx ⟨name,[],par,[]⟩) par ⟨q.name,q.ats,q.parent,jl q.kids 0 nx⟩) (nx+1) (c+1) r2) (.inr (.inr ⟨rfl,(a1W hb.w par 0 name q hq (by omega) hnm (r par) hu hlt (by omega) hnx (by omega) hb.low).mono ?_⟩))).mono fun e w' ⟨u,h1,h2,h3,h4⟩=>⟨h2,.inr ⟨rfl,by rw[h1,h3],h4⟩⟩;rintro e w' ⟨rfl,hk,kR,p',ht,hd'⟩;have hv:=h.d.aeg h.new (by omega) hq name 0;exact⟨_,_,rfl,(b0.mono h.low).trans (hk.below (fun b t hb'=>(hb.w.low b t hb').1) hb.low),rfl,kR,p',_,hd',h.d.add hv hq (by omega),hv.count h.n,by omega,aJ hb.low hk.size⟩
theorem a7f (hM:eG M)(hnx:nx<1000000)(par m:Int)(hn:dR par)(name v:Bs)(hnm:gG name=true):ApX E ⟨DU,par,m,0,name,v⟩ M nx c:=by
 have ER:∀k,k≠0->k<=11->(∀N tg V DB MB p r,LE E V->jm N tg V DB MB p M nx c r->au 155 #[ay DB,aa par,aa 0,.string ⟨name.toArray⟩] V fun e w'=>e=.returned (.tuple #[aa 0,eV (E k)])/\Below V.heap.size V w')->ApX E ⟨DU,par,m,0,name,v⟩ M nx c:=fun k h0 h1 HC=>by
  refine⟨k,M,nx,c,h1,Nat.le_succ _,hM,fun N tg V DB MB p r hE h=>?_⟩;have b0:=bT V (.cells (vS ⟨DU,par,m,0,name,v⟩) 145);exact(mP par m 0 name v (fun u w'=>Below N V w'/\u=eV (E k)) (.inr (.inr ⟨rfl,(HC N tg _ DB MB p r (hE.below b0) (h.below b0)).mono fun e w' ⟨h1,h2⟩=>⟨_,_,h1,(aH b0 h2).mono h.low,rfl⟩⟩))).mono fun e w' ⟨u,h1,h2,h3⟩=>⟨h2,.inl ⟨h0,by rw[h1,h3]⟩⟩
 cases hq:M par with
 |none=>exact ER 5 (by decide) (by decide) fun N tg V DB MB p r hE h=>a5V hE.de h.w par 0 name hn hq
 |some q=>
  by_cases hd:∃d,10<=d/\Up M par d
  ·obtain⟨d,hd1,hd2⟩:=hd;exact ER 8 (by decide) (by decide) fun N tg V DB MB p r hE h=>by
    have hkl:=h.few hq;have hu:=h.d.deep _ par q rfl hq;have hb:=h.d.rb par q hq;have:=Up.same hd2 hu;exact Yl hE.de h.w par 0 name hn q hq (by omega) (by omega) (by omega) hnm (r par) hu (by omega) (by omega)
  by_cases hc:100<=c
  ·exact ER 7 (by decide) (by decide) fun N tg V DB MB p r hE h=>by
    have hkl:=h.few hq;have hu:=h.d.deep _ par q rfl hq;have hb:=h.d.rb par q hq;exact Ym hE.de h.w par 0 name hn q hq (by omega) (by omega) (by omega) hnm (r par) hu (by omega) (Nat.lt_of_not_le fun h1=>hd ⟨_,h1,hu⟩) hc
  obtain⟨k1,k2⟩:=Gu (E:=E) hM hnx par m name v hnm hq hd hc;exact⟨0,_,nx+1,c+1,by decide,Nat.le_refl _,k1,k2⟩
end
end
section
open Go.RowKit
def ErK (E:Nat->Addr)(k:Nat)(v:ah)(w:ag):Prop:=v=eV (E k)\/∃pb n,v=.iface 90 (ay pb)/\w.cell? (ak pb 0)=some (aa n)/\w.cell? (ak pb 1)=some (eV (E k))
theorem ZH (l:List Qt):∃k,1<=k/\k<=11/\∀E:Nat->Addr,xD (E 2) (E 3) (E 10) l=E k:=by
 unfold xD NI
 repeat' split
 all_goals first|exact⟨2,by decide,by decide,fun _=>rfl⟩|exact⟨3,by decide,by decide,fun _=>rfl⟩|exact⟨10,by decide,by decide,fun _=>rfl⟩
theorem DV {α:Type}{p:α->Prop}:∀{q q' t t':List α} {x x':α},q++x::t=q'++x'::t'->(∀y∈q,p y)->¬p x->(∀y∈q',p y)->¬p x'->x=x'
 |[],[],_,_,_,_,h,_,_,_,_=>(List.cons.inj h).1
 |[],a::_,_,_,_,_,h,_,h2,h3,_=>by
  have h1:=(List.cons.inj h).1;subst h1;exact absurd (h3 _ (by simp)) h2
 |a::_,[],_,_,_,_,h,h1,_,_,h4=>by
  have h5:=(List.cons.inj h).1;subst h5;exact absurd (h1 _ (by simp)) h4
 |a::q,b::q',_,_,_,_,h,h1,h2,h3,h4=>DV (List.cons.inj h).2 (fun y hy=>h1 y (by simp[hy])) h2 (fun y hy=>h3 y (by simp[hy])) h4
theorem MX (c:Nat):1<=rD c/\rD c<=11:=by
 unfold rD;split<;>decide
theorem MZ {α:Type}{P:Ft->Prop}{g:Nat×List Pc->α->Except Ft (Nat×List Pc)}(hg:∀s x e,g s x=.error e->P e):∀(l:List α) (s:Nat×List Pc) (e:Ft),l.foldlM g s=.error e->P e
 |[],s,e,h=>by cases h
 |x::l,s,e,h=>by
  rw[List.foldlM_cons] at h;cases hx:g s x with
  |error e'=>rw[hx] at h;cases h;exact hg s x _ hx
  |ok t=>
   rw[hx] at h;exact MZ hg l t e h
theorem DX {M:Dm}{l:List Rl}{n:Int}{m:Mv}{x:Except Nat (List Qt)}{st:Nat×List Pc}{e:Ft}(h:iF M l n m x st=.error e):1<=e.code/\e.code<=11:=by
 unfold iF at h;split at h
 ·cases h;exact MX _
 ·split at h
  ·cases h;simp
  ·split at h<;>cases h
theorem yG (M:Dm)(l:List Rl):∀(f:Nat) (n:Int) (path:List Int) (m:Mv) (st:Nat×List Pc) (e:Ft),dM M l f n path m st=.error e->1<=e.code/\e.code<=11
 |0,n,path,m,st,e,h=>by
  unfold dM at h;split at h<;>cases h<;>simp
 |f+1,n,path,m,st,e,h=>by
  unfold dM at h;split at h
  ·cases h;simp
  split at h
  ·cases h;simp
  split at h
  ·cases h
  split at h
  ·cases h;exact MX _
  ·split at h
   ·exact DX h
   ·split at h
    ·exact DX h
    ·split at h
     ·exact MZ (fun s x e h=>yG M l f x _ _ s e h) _ _ e h
     ·split at h
      ·cases h;simp
      ·exact yG M l f _ _ _ _ e h
theorem PS.num (M:Dm)(rl:List Rl):∃k,1<=k/\k<=11/\∀E v w,PS E M rl v w->ErK E k v w:=by
 cases hp:dV M rl with
 |error ft=>
  have hk:1<=ft.code/\ft.code<=11:=by
   unfold dV at hp;split at hp
   ·next h=>cases hp;exact yG M rl _ _ _ _ _ _ h
   ·cases hp
  refine⟨ft.code,hk.1,hk.2,fun E v w ⟨pb,n,h1,h2,h3⟩=>.inr ⟨pb,n,h1,h2,?_⟩⟩;rcases h3 with⟨ft',h4,h5⟩|⟨q,x,t,h4, -⟩
  ·rw[hp] at h4;cases h4;exact h5
  ·rw[hp] at h4;cases h4
 |ok l=>
  by_cases hb:∃q x t,l=q++x::t/\(∀y∈q,iw (fK y))/\¬iw (fK x)
  ·obtain⟨q,x,t,e1,e2,e3⟩:=hb;obtain⟨k,k1,k2,k3⟩:=ZH (fK x).pts;refine⟨k,k1,k2,fun E v w ⟨pb,n,h1,h2,h3⟩=>.inr ⟨pb,n,h1,h2,?_⟩⟩;rcases h3 with⟨ft',h4,h5⟩|⟨q',x',t',h4,h5,h6,h7⟩
   ·rw[hp] at h4;cases h4
   ·rw[hp] at h4;have hxx:x=x':=DV (p:=fun y=>iw (fK y)) (e1.symm.trans (Except.ok.inj h4)) e2 e3 h5 h6;subst hxx;rw[h7,k3]
  ·refine⟨1,by decide,by decide,fun E v w ⟨pb,n,h1,h2,h3⟩=>?_⟩;rcases h3 with⟨ft',h4,h5⟩|⟨q',x',t',h4,h5,h6,h7⟩
   ·rw[hp] at h4;cases h4
   ·rw[hp] at h4;exact absurd ⟨q',x',t',Except.ok.inj h4,h5,h6⟩ hb
def jR (W:ag)(LB B DB:Nat)(M:Dm)(nx c:Nat)(rl:List Rl)(l:List Pc)(w h:Nat)(X:Option Nat):Prop:=∃r tg MB p rv qs pv cv,LvS W LB B tg DB MB p M nx c r rl rv qs pv w h cv/\qs.map dI.pc=l/\∀b,X=some b->tg b=none
theorem jR.e {W:ag}{LB B DB:Nat}{M:Dm}{nx c:Nat}{rl:List Rl}{l:List Pc}{w h:Nat}{X:Option Nat}(hl:jR W LB B DB M nx c rl l w h X):∃r,LvE W LB B DB M nx c r rl l w h:=by
 obtain⟨r,tg,MB,p,rv,qs,pv,cv,h1,h2, -⟩:=hl;exact⟨r,tg,MB,p,rv,qs,pv,cv,h1,h2⟩
theorem jR.below {W W':ag}{LB B DB:Nat}{M:Dm}{nx c:Nat}{rl:List Rl}{l:List Pc}{w h:Nat}{X:Option Nat}(hl:jR W LB B DB M nx c rl l w h X)(hb:Below W.heap.size W W'):jR W' LB B DB M nx c rl l w h X:=by
 obtain⟨r,tg,MB,p,rv,qs,pv,cv,h1,h2,h3⟩:=hl;exact⟨r,tg,MB,p,rv,qs,pv,cv,h1.below hb,h2,h3⟩
def DoF (E:Nat->Addr)(x:Ed)(M:Dm)(nx c:Nat)(rl:List Rl)(l:List Pc)(w h k:Nat)(M2:Dm)(l7 c2:Nat)(l2:List Pc):Prop:=∀W LB B DB X,(∀b,X=some b->b<W.heap.size)->LE E W->jR W LB B DB M nx c rl l w h X->au 58 #[ay LB,.agg (vS x)] W fun e w'=>K2 LB DB W w'/\jR w' LB B DB M2 l7 c2 rl l2 w h X/\∃v u,e=.returned (.tuple #[v,u])/\((k=0/\u=.nilIface)\/(1<=k/\ErK E k u w'))
def DoX (E:Nat->Addr)(x:Ed)(M:Dm)(nx c:Nat)(rl:List Rl)(l:List Pc)(w h:Nat):Prop:=∃k M2 l7 c2 l2,k<=11/\l7<=nx+1/\eG M2/\DoF E x M nx c rl l w h k M2 l7 c2 l2
section
variable {E:Nat->Addr}{x:Ed}{M M1:Dm}{nx c k1 nx1 c1:Nat}{rl:List Rl}{l:List Pc}{w h:Nat}
theorem ZI (hx:x.kd≠nM)(hM1:eG M1)(AF:ApF E x M nx c k1 M1 nx1 c1)(hw1:1<=w)(hw:w<=40)(ug:1<=h)(hh:h<=40):∀W LB B DB X,(∀b,X=some b->b<W.heap.size)->LE E W->jR W LB B DB M nx c rl l w h X->au 58 #[ay LB,.agg (vS x)] W fun e w'=>(∃t u,e=.returned (.tuple #[.slice none 0 0,.iface t u])/\K2 LB DB W w'/\jR w' LB B DB M nx c rl l w h X/\((k1≠0/\.iface t u=eV (E k1))\/(k1=0/\PS E M1 rl (.iface t u) w')))\/(k1=0/\∃l2 v,dV M1 rl=.ok l2/\UT M1 rl/\K2 LB DB W w'/\e=.returned (.tuple #[v,.nilIface])/\jR w' LB B DB M1 nx1 c1 rl l2 w h X):=fun W LB B DB X hXs hE hl=>by
 obtain⟨r,tg,MB,p,rv,qs,pv,cv,hl,hq,hX⟩:=hl;obtain⟨Nk,Nl,OE⟩:=aM hl.row;subst OE;refine(a2H hE hl hw1 hw ug hh x (fun v=>k1≠0/\v=eV (E k1)) (fun _=>False) (fun a b d _=>k1=0/\a=M1/\b=nx1/\d=c1) rl hl.rok (fun N V sJ Dy Je p1 h1 h2 h3=>(AF N sJ V Dy Je p1 r (hE.below h2) h3).mono fun e w' ⟨g1,g2⟩=>⟨g1,?_⟩) (fun V hV=>(PR x hx _ _ _ V).mono fun e w' ⟨h1,h2⟩=>⟨h2,.inr ⟨_,_,_,h1,aQ hl.row (hV.trans (h2.mono hV.size))⟩⟩)).mono fun e w' hr=>?_
 ·rcases g2 with⟨g2,g3⟩|⟨g2,g3,vR,p2,r2,g4⟩
  ·exact .inl ⟨_,_,⟨g2,rfl⟩,g3⟩
  ·exact .inr ⟨g3,vR,p2,M1,nx1,c1,r2,⟨g2,rfl,rfl,rfl⟩,hM1,g4⟩
 ·rcases hr with⟨⟨t,u,h1,h2⟩,h3,h4⟩|⟨vR,MB2,p2,M2,l7,c2,r2,rv2,vF,pv2,cv2,o,n,cp,⟨k0,rfl,rfl,rfl⟩,h2,h3,h4,h5,h6,h7⟩
  ·refine .inl ⟨t,u,h1,⟨h3.os,h3.tape,h3.output,h3.size,fun b hb _ _=>h3.block b hb⟩,⟨r,tg,MB,p,_,qs,pv,cv,h4,hq,hX⟩,?_⟩;rcases h2 with h2|h2|⟨M2,l7,c2,r2,⟨h5,rfl, -, -⟩,h6⟩
   ·exact .inl h2
   ·exact h2.elim
   ·exact .inr ⟨h5,h6⟩
  ·exact .inr ⟨k0,vF.map dI.pc,_,h6.pm,h2,h3,h4,r2,vR,MB2,p2,rv2,vF,pv2,cv2,h6,rfl,fun b hb=>h7 b (hXs b hb) fun e1=>by have:=hl.ds.w.ji;rw[<- e1,hX b hb] at this;cases this⟩
theorem ZJ (hx:x.kd≠nM)(hM1:eG M1)(AF:ApF E x M nx c 0 M1 nx1 c1){l2:List Pc}(hp1:dV M1 rl=.ok l2)(hp:UT M1 rl)(hw1:1<=w)(hw:w<=40)(ug:1<=h)(hh:h<=40):DoF E x M nx c rl l w h 0 M1 nx1 c1 l2:=fun W LB B DB X hXs hE hl=>(ZI hx hM1 AF hw1 hw ug hh W LB B DB X hXs hE hl).mono fun e w' hr=>by
 rcases hr with⟨t,u, -, -, -,⟨h1, -⟩|⟨-,h1⟩⟩|⟨-,l3,v,h1, -,h3,h4,h5⟩
 ·exact absurd rfl h1
 ·exact absurd hp h1.no
 ·rw[hp1] at h1;cases h1;exact⟨h3,h5,_,_,h4,.inl ⟨rfl,rfl⟩⟩
end
theorem afL {E:Nat->Addr}{x:Ed}{M:Dm}{nx c:Nat}{rl:List Rl}{l:List Pc}{w h:Nat}(hM:eG M)(hx:x.kd≠nM)(hA:ApX E x M nx c)(hw1:1<=w)(hw:w<=40)(ug:1<=h)(hh:h<=40):DoX E x M nx c rl l w h:=by
 obtain⟨k1,M1,nx1,c1,hk1,hn1,hM1,AF⟩:=hA;have GO:=ZI (rl:=rl) (l:=l) hx hM1 AF hw1 hw ug hh;by_cases h0:k1=0
 ·by_cases hp:UT M1 rl
  ·obtain⟨l2,hp1,hp2⟩:=id hp;subst h0;exact⟨0,M1,nx1,c1,l2,by omega,hn1,hM1,ZJ hx hM1 AF hp1 hp hw1 hw ug hh⟩
  ·obtain⟨k,k2,k3,k4⟩:=PS.num M1 rl;refine⟨k,M,nx,c,l,k3,Nat.le_succ _,hM,fun W LB B DB X hXs hE hl=>(GO W LB B DB X hXs hE hl).mono fun e w' hr=>?_⟩;rcases hr with⟨t,u,h1,h2,h3,⟨h4, -⟩|⟨-,h4⟩⟩|⟨-,l3,v,h1,h2, -⟩
   ·exact absurd h0 h4
   ·exact⟨h2,h3,_,_,h1,.inr ⟨k2,k4 _ _ _ h4⟩⟩
   ·exact absurd h2 hp
 ·refine⟨k1,M,nx,c,l,hk1,Nat.le_succ _,hM,fun W LB B DB X hXs hE hl=>(GO W LB B DB X hXs hE hl).mono fun e w' hr=>?_⟩;rcases hr with⟨t,u,h1,h2,h3,⟨-,h4⟩|⟨h4, -⟩⟩|⟨h1, -⟩
  ·exact⟨h2,h3,_,_,h1,.inr ⟨by omega,.inl h4⟩⟩
  ·exact absurd h4 h0
  ·exact absurd h1 h0
end
section
open Go.RowKit
set_option maxRecDepth 20000
structure PE (E:Nat->Addr)(w:ag):Prop where
 ne:NE E w
 ee:EE E w
 mx:VD w
section
variable {E:Nat->Addr}{w w':ag}
theorem PE.below (h:PE E w)(hb:Below w.heap.size w w'):PE E w':=⟨h.ne.below hb,h.ee.below hb ai,h.mx.below hb⟩
theorem PE.g (h:PE E w):∃aZ,G (E 2) (E 3) aZ w:=⟨_,⟨h.ne.c2,h.ne.c3,rfl⟩,⟨h.ee.c11⟩,h.ne.tab⟩
theorem PE.le (h:PE E w):LE E w:=⟨h.ne,⟨h.ee.c2,h.ee.c3,h.ee.c4,h.ee.c5,h.ee.c6,h.ee.c7,h.ee.c8,h.ee.c9,h.ee.c10⟩,h.ee.et⟩
end
abbrev ZK:Array ah:=#[.string ⟨#[]⟩,aa 0,aa 0,aa 0,.string ⟨#[]⟩,.string ⟨#[]⟩]
theorem ZL {w:ag}{b:Nat}{a0 a1 a2 a3 a4 a5:ah}{t:TypeId}(h:w.heap[b]? =some (.cells #[a0,a1,a2,a3,a4,a5] t))(u0 u1 u2 u3 u4 u5:ah):((((((w.setCell ⟨b,0,none⟩ u0).setCell ⟨b,1,none⟩ u1).setCell ⟨b,2,none⟩ u2).setCell ⟨b,3,none⟩ u3).setCell ⟨b,4,none⟩ u4).setCell ⟨b,5,none⟩ u5).heap[b]? =some (.cells #[u0,u1,u2,u3,u4,u5] t):=by
 have h1:=heap_setCell_same _ b 5 _ _ u5 (heap_setCell_same _ b 4 _ _ u4 (heap_setCell_same _ b 3 _ _ u3 (heap_setCell_same _ b 2 _ _ u2 (heap_setCell_same _ b 1 _ _ u1 (heap_setCell_same w b 0 _ _ u0 h)))));rw[h1];rfl
theorem Vo (n:Int)(a b:aC)(W:ag):
  au 108 #[aa n,.string a,.string b] W fun e w'=>e=.returned (.agg #[.string ⟨#[115,101,116]⟩,aa n,aa 0,aa 0,.string a,.string b])/\Below W.heap.size W w':=by
 have b1:=bT W (.cells ZK 145);have k1:=dw W ZK 145;go_enter func108,ntmps108;go_upto_region 1 with fail;obtain⟨X,hX⟩:∃X,W.alloc (.cells ZK 145)=X:=⟨_,rfl⟩;have ZM:W.alloc (.cells #[.string ByteArray.empty,aa 0,aa 0,aa 0,.string ByteArray.empty,.string ByteArray.empty] 145)=X:=hX;rw[hX] at b1 k1
 first|rw[hX]|rw[ZM]
 obtain⟨RB,P7⟩:∃b,W.heap.size=b:=⟨_,rfl⟩;rw[P7] at k1⊢;have HL:Hid (W.heap.size<=RB):=Nat.le_of_eq P7;clear hX ZM P7;have z0:=aD k1 0 _ rfl;have z1:=aD k1 1 _ rfl;have z2:=aD k1 2 _ rfl;have z3:=aD k1 3 _ rfl;have z4:=aD k1 4 _ rfl;have z5:=aD k1 5 _ rfl;have f0:=dz k1 0;have f1:=dz k1 1;have f2:=dz k1 2;have f3:=dz k1 3;have f4:=dz k1 4;have f5:=dz k1 5;go_wp2_with fail;have r:=ZL k1 (.string ⟨#[115,101,116]⟩) (aa n) (aa 0) (aa 0) (.string a) (.string b);have r0:=aD r 0 _ rfl;have r1:=aD r 1 _ rfl;have r2:=aD r 2 _ rfl;have r3:=aD r 3 _ rfl;have r4:=aD r 4 _ rfl;have r5:=aD r 5 _ rfl;have hle:=HL.out;refine bodyPost_ret (v:=.agg #[.string ⟨#[115,101,116]⟩,aa n,aa 0,aa 0,.string a,.string b]) (by simp[results,results108,go_sem,r0,r1,r2,r3,r4,r5]) rfl ⟨rfl,?_⟩;exact Below.setCell (Below.setCell (Below.setCell (Below.setCell (Below.setCell (Below.setCell b1 hle _) hle _) hle _) hle _) hle _) hle _
theorem DY (f:aC)(hf:f=⟨#[120,121,119,104]⟩\/f=⟨#[97,98,99,100]⟩)(q r:Nat)(hr:q % 4=r)(W:ag):
  au 109 #[.string f,aa q] W fun e w'=>e=.returned (.string (f.extract r (r+1)))/\w'=W:=by
 have h1:(q:Int) % 4=(r:Int):=by omega
 have h2:(r:Int)<4:=by omega
 obtain⟨r1,hr1⟩:∃r1,r+1=r1:=⟨_,rfl⟩;have h3:(r:Int)+1=(r1:Int):=by omega
 have h4:(r1:Int)<=4:=by omega
 have h5:(r:Int)<=(r1:Int):=by omega
 rw[hr1];clear hr hr1;rcases hf with rfl|rfl
 all_goals
  go_enter func109,ntmps109;go_wp2_with fail;go_ret;exact⟨rfl,rfl⟩
theorem a3o (q:Nat)(W:ag):au 112 #[aa q] W fun e w'=>e=.returned (.string (if q % 2=0 then⟨#[121,101,115]⟩ else⟨#[110,111]⟩))/\w'=W:=by
 by_cases h:q % 2=0
 ·rw[if_pos h];have h1:((q:Int) % 2==0)=true:=by rw[beq_iff_eq];omega
  clear h;go_enter func112,ntmps112;go_wp2_with fail;go_ret;exact⟨rfl,rfl⟩
 ·rw[if_neg h];have h1:((q:Int) % 2==0)=false:=by rw[beq_eq_false_iff_ne];omega
  clear h;go_enter func112,ntmps112;go_wp2_with fail;go_ret;exact⟨rfl,rfl⟩
theorem VG {w:ag}{b:Nat}{cs:Array ah}{t:TypeId}(h:w.heap[b]? =some (.cells cs t))(i:Nat):w.frozen? ⟨b,i,none⟩=false:=dz h i
theorem J9 (n:Int){a b a' b':aC}(ha:a=a')(hb:b=b')(W:ag):
  au 108 #[aa n,.string a',.string b'] W fun e w'=>e=.returned (.agg #[.string ⟨#[115,101,116]⟩,aa n,aa 0,aa 0,.string a,.string b])/\Below W.heap.size W w':=by
 subst ha hb;exact Vo n a b W
theorem Q4 (k q:Nat)(n:Int)(a b:aC)(W:ag)(q4 r12 q5 r5 s5 r4:Nat)(e1:(q:Int)/4=(q4:Int))(e2:(q4:Int) % 12=(r12:Int))(e3:(q:Int)/5=(q5:Int))(e4:(q:Int) % 5=(r5:Int))(e5:(q5:Int) % 5=(s5:Int))(e6:(q:Int) % 4=(r4:Int))(hq:(q:Int)<=9223372036854775807)
    (h:((k=0\/k=1)/\(∀V,au 109 #[.string ⟨#[120,121,119,104]⟩,aa q] V fun e w'=>e=.returned (.string a)/\w'=V)/\∀V,Below W.heap.size W V->au 110 #[aa r12] V fun e w'=>e=.returned (.string b)/\Below V.heap.size V w')\/
      (k=2/\a=⟨#[102,105,108,108]⟩/\∀V,au 109 #[.string ⟨#[97,98,99,100]⟩,aa q] V fun e w'=>e=.returned (.string b)/\w'=V)\/
      (k=3/\a=⟨#[109,111,118,101]⟩/\∃s1 s2:aC,b=⟨#[109,111,118,101,32]⟩++s1++⟨#[32]⟩++s2/\s1.size<=21/\s2.size<=21/\(∀V,Below W.heap.size W V->au 111 #[aa r5] V fun e w'=>e=.returned (.string s1)/\Below V.heap.size V w')/\∀V,Below W.heap.size W V->au 111 #[aa s5] V fun e w'=>e=.returned (.string s2)/\Below V.heap.size V w')\/
      (k=6/\a=⟨#[115,104,111,119]⟩/\∀V,au 112 #[aa q] V fun e w'=>e=.returned (.string b)/\w'=V)\/
      (k=7/\a=⟨#[108,101,118,101,108]⟩/\∀V,Below W.heap.size W V->au 111 #[aa r4] V fun e w'=>e=.returned (.string b)/\Below V.heap.size V w')):
    au 59 #[aa k,aa q,aa n] W fun e w'=>e=.returned (.agg #[.string ⟨#[115,101,116]⟩,aa n,aa 0,aa 0,.string a,.string b])/\Below W.heap.size W w':=by
  have b1:=bT W (.cells ZK 145);have k1:=dw W ZK 145;rcases h with⟨rfl|rfl,LT,HV⟩|⟨rfl,ha,LT⟩|⟨rfl,ha,s1,s2,hb,hs1,hs2,I1,I2⟩|⟨rfl,ha,YN⟩|⟨rfl,ha,IT⟩
  all_goals
    first|(have SET:=J9 n ha hb;clear ha hb)|(have SET:=J9 n ha (Eq.refl b);clear ha)|have SET:=J9 n (Eq.refl a) (Eq.refl b)
    go_enter func59,ntmps59;go_upto_region 1 with fail;obtain⟨X,hX⟩:∃X,W.alloc (.cells ZK 145)=X:=⟨_,rfl⟩;have ZM:W.alloc (.cells #[.string ByteArray.empty,aa 0,aa 0,aa 0,.string ByteArray.empty,.string ByteArray.empty] 145)=X:=hX;rw[hX] at b1 k1
    first|rw[hX]|rw[ZM]
    obtain⟨RB,P7⟩:∃b,W.heap.size=b:=⟨_,rfl⟩;rw[P7] at k1⊢;have HL:Hid (W.heap.size<=RB):=Nat.le_of_eq P7;have KX:Hid (∀Y,Below X.heap.size X Y->Y.heap[RB]? =some (.cells ZK 145)):=(fun Y hY=>(hY.block _ (aI k1)).trans k1:∀Y,Below X.heap.size X Y->Y.heap[RB]? =some (.cells ZK 145));have B1:=aj b1;clear hX ZM P7 k1 b1
    try have hA:¬9223372036854775807<5+s1.size:=by omega
    try have hB:¬9223372036854775807<5+s1.size+1:=by omega
    try have hC:¬9223372036854775807<5+s1.size+1+s2.size:=by omega
    obtain⟨Y0,hY0,bY⟩:∃Y,Y=X/\Hid (Below X.heap.size X Y):=⟨X,rfl,aG _ _⟩;rw[<- hY0];clear hY0;go_wp2_with(first
      |(go_at_call 109;refine(LT _).mono ?_;rintro e v ⟨rfl,rfl⟩)
      |(go_at_call 110;refine(HV _ (aH B1.out bY.out)).mono ?_;rintro e Y1 ⟨rfl,b2⟩;have bZ:Hid (Below X.heap.size X Y1):=aH bY.out b2)
      |(go_at_call 112;refine(YN _).mono ?_;rintro e v ⟨rfl,rfl⟩)
      |(go_at_call_of 111 s5;refine(I2 _ (aH B1.out bM.out)).mono ?_;rintro e Y1 ⟨rfl,b2⟩;have bZ:Hid (Below X.heap.size X Y1):=aH bM.out b2)
      |(go_at_call 111;refine(I1 _ (aH B1.out bY.out)).mono ?_;rintro e Y2 ⟨rfl,b2⟩;have bM:Hid (Below X.heap.size X Y2):=aH bY.out b2)
      |(go_at_call 111;refine(IT _ (aH B1.out bY.out)).mono ?_;rintro e Y1 ⟨rfl,b2⟩;have bZ:Hid (Below X.heap.size X Y1):=aH bY.out b2)
      |(go_at_call 108;refine(SET _).mono ?_;rintro e w1 ⟨rfl,b3⟩;(first|have bw:=aH bZ.out b3|have bw:=aH bY.out b3);have kz:=KX.out _ bw;have z0:=aD kz 0 _ rfl;have z1:=aD kz 1 _ rfl;have z2:=aD kz 2 _ rfl;have z3:=aD kz 3 _ rfl;have z4:=aD kz 4 _ rfl;have z5:=aD kz 5 _ rfl;have f0:=VG kz 0;have f1:=VG kz 1;have f2:=VG kz 2;have f3:=VG kz 3;have f4:=VG kz 4;have f5:=VG kz 5))
    have r:=ZL kz (.string ⟨#[115,101,116]⟩) (aa n) (aa 0) (aa 0) (.string a) (.string b);have r0:=aD r 0 _ rfl;have r1:=aD r 1 _ rfl;have r2:=aD r 2 _ rfl;have r3:=aD r 3 _ rfl;have r4:=aD r 4 _ rfl;have r5:=aD r 5 _ rfl;have hle:=HL.out;refine bodyPost_ret (v:=.agg #[.string ⟨#[115,101,116]⟩,aa n,aa 0,aa 0,.string a,.string b]) (by simp[results,results59,go_sem,r0,r1,r2,r3,r4,r5]) rfl ⟨rfl,?_⟩;exact Below.setCell (Below.setCell (Below.setCell (Below.setCell (Below.setCell (Below.setCell (aH B1.out bw) hle _) hle _) hle _) hle _) hle _) hle _
theorem RZ:∀r:Nat,r<12->jH (mk r 2).n/\jH (mk r 2).d:=by
 unfold jH;decide+kernel
section
variable {E:Nat->Addr}{W:ag}
theorem Q5 (r:Nat)(hr:r<12)(hP:PE E W):au 110 #[aa r] W fun e w'=>e=.returned (.string ⟨(Dc (mk r 2).n (mk r 2).d).toArray⟩)/\Below W.heap.size W w':=by
 obtain⟨hn,hd⟩:=RZ r hr;obtain⟨aZ,hG⟩:=hP.g;have MK:=YB (E 2) (E 3) aZ r 2 W ⟨by omega,by omega⟩ ⟨by omega,by omega⟩ hG.e3 hG.z;have TX:=fun V (hV:Below W.heap.size W V)=>YC (E 2) (E 3) aZ (mk r 2).n (mk r 2).d V hn hd (hG.below hV ai);generalize (mk r 2).n=a at*;generalize (mk r 2).d=b at*;generalize er (E 2) (E 3) aZ (mk r 2).c=u at*;generalize (⟨(Dc a b).toArray⟩:aC)=s at*;clear hP hG hr hn hd;go_enter func110,ntmps110;go_wp2_with(first|(go_at_call 164;refine MK.mono ?_;rintro e w1 ⟨rfl,b1⟩)|(go_at_call 165;refine(TX _ (by first|exact b1|exact b1.alloc (by first|exact b1.size|exact Nat.le_refl _) _)).mono ?_;rintro e w2 ⟨rfl,b2⟩));go_ret;exact⟨rfl,by first|exact aH b1 b2|exact aH (b1.alloc b1.size _) b2⟩
theorem yH (k q:Nat)(n:Int)(x y:aC)(h:(k=4/\x=⟨#[97,100,100]⟩/\y=⟨#[98,111,120]⟩)\/(k=5/\x=⟨#[114,101,109,111,118,101]⟩/\y=⟨#[]⟩))(W:ag):
  au 59 #[aa k,aa q,aa n] W fun e w'=>e=.returned (.agg #[.string x,aa n,aa 0,aa 0,.string y,.string ⟨#[]⟩])/\Below W.heap.size W w':=by
 have b1:=bT W (.cells ZK 145);have k1:=dw W ZK 145;rcases h with⟨rfl,hx,hy⟩|⟨rfl,hx,hy⟩
 all_goals
  go_enter func59,ntmps59;go_upto_region 1 with fail;obtain⟨X,hX⟩:∃X,W.alloc (.cells ZK 145)=X:=⟨_,rfl⟩;have ZM:W.alloc (.cells #[.string ByteArray.empty,aa 0,aa 0,aa 0,.string ByteArray.empty,.string ByteArray.empty] 145)=X:=hX;rw[hX] at b1 k1
  first|rw[hX]|rw[ZM]
  obtain⟨RB,P7⟩:∃b,W.heap.size=b:=⟨_,rfl⟩;rw[P7] at k1⊢;have HL:Hid (W.heap.size<=RB):=Nat.le_of_eq P7;clear hX ZM P7;have z0:=aD k1 0 _ rfl;have z1:=aD k1 1 _ rfl;have z2:=aD k1 2 _ rfl;have z3:=aD k1 3 _ rfl;have z4:=aD k1 4 _ rfl;have z5:=aD k1 5 _ rfl;have f0:=VG k1 0;have f1:=VG k1 1;have f2:=VG k1 2;have f3:=VG k1 3;have f4:=VG k1 4;have f5:=VG k1 5;go_wp2_with fail;have r:=ZL k1 (.string x) (aa n) (aa 0) (aa 0) (.string y) (.string ⟨#[]⟩);subst hx hy;have r0:=aD r 0 _ rfl;have r1:=aD r 1 _ rfl;have r2:=aD r 2 _ rfl;have r3:=aD r 3 _ rfl;have r4:=aD r 4 _ rfl;have r5:=aD r 5 _ rfl;have hle:=HL.out;refine bodyPost_ret (v:=_) (by simp[results,results59,go_sem,r0,r1,r2,r3,r4,r5]) rfl ⟨rfl,?_⟩;exact Below.setCell (Below.setCell (Below.setCell (Below.setCell (Below.setCell (Below.setCell b1 hle _) hle _) hle _) hle _) hle _) hle _
end
def a7g (x:Ed)(n:Int):Prop:=(∃nm v,x=⟨MJ,n,0,0,nm,v⟩/\nm.length<=1000000/\v.length<=1000000)\/x=⟨ng,n,0,0,[],[]⟩\/x=⟨DU,n,0,0,[98,111,120],[]⟩
def EdX (k q:Nat)(n:Int):Prop:=∃x,a7g x n/\∀E W,PE E W->au 59 #[aa k,aa q,aa n] W fun e w'=>e=.returned (.agg (vS x))/\Below W.heap.size W w'
theorem EdX.of {k q:Nat}{n:Int}(a b:aC)(ha:a.size<=1000000)(hb:b.size<=1000000)(h:∀E W,PE E W->au 59 #[aa k,aa q,aa n] W fun e w'=>e=.returned (.agg #[.string ⟨#[115,101,116]⟩,aa n,aa 0,aa 0,.string a,.string b])/\Below W.heap.size W w'):EdX k q n:=
 ⟨⟨MJ,n,0,0,a.data.toList,b.data.toList⟩,.inl ⟨_,_,rfl,ha,hb⟩,h⟩
theorem ZN (f:aC)(r:Nat):(f.extract r (r+1)).size<=1:=by simp[ByteArray.size_extract];omega
theorem a3p (a b:Int)(ha:jH a)(hb:jH b):(⟨(Dc a b).toArray⟩:aC).size<=100:=by
 have h1:=Lib.itoa_length_le a ha.1 ha.2;have h2:=Lib.itoa_length_le b hb.1 hb.2;have h3:(⟨(Dc a b).toArray⟩:aC).size=(Dc a b).length:=by simp[ByteArray.size]
 rw[h3];unfold Dc;split
 ·omega
 ·simp;omega
theorem ZO (k q:Nat)(hk:k<8)(n:Int)(hq:(q:Int)<=9223372036854775807):EdX k q n:=by
 obtain⟨s1,i1,z1, -⟩:=oC ((q % 5:Nat):Int) ⟨by omega,by omega⟩;obtain⟨s2,i2,z2, -⟩:=oC ((q/5 % 5:Nat):Int) ⟨by omega,by omega⟩;obtain⟨s3,i3,z3, -⟩:=oC ((q % 4:Nat):Int) ⟨by omega,by omega⟩;have IT:∀(m:Nat) (s:aC),(m:Int)<5->(⟨(Lib.itoa m).toArray⟩:aC)=s->∀E W,PE E W->∀V,Below W.heap.size W V->au 111 #[aa m] V fun e w'=>e=.returned (.string s)/\Below V.heap.size V w':=fun m s hm hs E W hP V hV=>Iy m s V ⟨by omega,by omega⟩ hs (hP.below hV).ne.tab;have ES:=fun a b W h=>Q4 k q n a b W (q/4) (q/4 % 12) (q/5) (q % 5) (q/5 % 5) (q % 4) (by omega) (by omega) (by omega) (by omega) (by omega) (by omega) hq h;obtain⟨hn,hd⟩:=RZ (q/4 % 12) (by omega);rcases(by omega:(k=0\/k=1)\/k=2\/k=3\/k=4\/k=5\/k=6\/k=7) with h|h|h|h|h|h|h
 ·exact EdX.of _ _ (aJ (ZN _ _) (by omega)) (aJ (a3p _ _ hn hd) (by omega)) fun E W hP=>ES _ _ W (.inl ⟨h,DY _ (.inl rfl) q (q % 4) rfl,fun V hV=>Q5 _ (by omega) (hP.below hV)⟩)
 ·exact EdX.of _ _ (by decide) (aJ (ZN _ _) (by omega)) fun E W hP=>ES _ _ W (.inr (.inl ⟨h,rfl,DY _ (.inr rfl) q (q % 4) rfl⟩))
 ·refine EdX.of ⟨#[109,111,118,101]⟩ (⟨#[109,111,118,101,32]⟩++s1++⟨#[32]⟩++s2) (by decide) ?_ fun E W hP=>ES _ _ W (.inr (.inr (.inl ⟨h,rfl,s1,s2,rfl,z1,z2,IT _ _ (by omega) i1 E W hP,IT _ _ (by omega) i2 E W hP⟩)));have h1:(⟨#[109,111,118,101,32]⟩:aC).size=5:=rfl;have h2:(⟨#[32]⟩:aC).size=1:=rfl;simp[ByteArray.size_append,h1,h2];omega
 ·exact⟨_,.inr (.inr rfl),fun E W hP=>yH k q n _ _ (.inl ⟨h,rfl,rfl⟩) W⟩
 ·exact⟨_,.inr (.inl rfl),fun E W hP=>yH k q n _ _ (.inr ⟨h,rfl,rfl⟩) W⟩
 ·refine EdX.of ⟨#[115,104,111,119]⟩ _ (by decide) ?_ fun E W hP=>ES _ _ W (.inr (.inr (.inr (.inl ⟨h,rfl,a3o q⟩))));split<;>decide
 ·exact EdX.of ⟨#[108,101,118,101,108]⟩ s3 (by decide) (by omega) fun E W hP=>ES _ _ W (.inr (.inr (.inr (.inr ⟨h,rfl,IT _ _ (by omega) i3 E W hP⟩))))
end
end Go.Proofs.YtecneflbncjhpaaGreatDoor
