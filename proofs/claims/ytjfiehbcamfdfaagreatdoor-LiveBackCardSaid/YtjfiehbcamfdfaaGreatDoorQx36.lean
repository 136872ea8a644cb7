/-
  Parts of the proof.
-/
import Derived.Test.YtjfiehbcamfdfaaGreatDoorQx5
namespace Go.Proofs.YtjfiehbcamfdfaaGreatDoor
section
def eB (c:UInt8):Bool:=c==32||c==61||c==34||c==60||c==62||c==47
def mB (c:UInt8):Bool:=c==60||c==62||c==38||c==34
def gT (s:Bs):Bs:=s.takeWhile (fun c=> !eB c)
def qp (s:Bs):Bs:=s.dropWhile (fun c=> !eB c)
def Lf (s:Bs):Bs:=s.takeWhile (fun c=> !mB c)
def Ct (s:Bs):Bs:=s.dropWhile (fun c=> !mB c)
def xE (u:Bs):Option (UInt8×Bs):=
  if[38,108,116,59].isPrefixOf u=true then some (60,u.drop 4)
  else if[38,103,116,59].isPrefixOf u=true then some (62,u.drop 4)
  else if[38,97,109,112,59].isPrefixOf u=true then some (38,u.drop 5)
  else if[38,113,117,111,116,59].isPrefixOf u=true then some (34,u.drop 6)
  else none
def vY (a:Bs):Option (Bs×Bs)->Option (Bs×Bs)
  |none=>none
  |some p=>some (a++p.1,p.2)
def nQ:Nat->Bs->Option (Bs×Bs)
  |0,_=>none
  |f+1,s=>if[34].isPrefixOf (Ct s)=true then some (Lf s,(Ct s).drop 1) else match xE (Ct s) with
    |none=>none
    |some p=>vY (Lf s++[p.1]) (nQ f p.2)
def sw (a:List (Bs×Bs)):Option (List (Bs×Bs)×Bs)->Option (List (Bs×Bs)×Bs)
  |none=>none
  |some p=>some (a++p.1,p.2)
def kJ (r:Bs):Option ((Bs×Bs)×Bs):=
  if gT r=[] then none
  else if[61,34].isPrefixOf (qp r)=true then match nQ (((qp r).drop 2).length+1) ((qp r).drop 2) with
    |none=>none
    |some p=>some ((gT r,p.1),p.2)
  else none
def nV:Nat->Bs->Option (List (Bs×Bs)×Bs)
  |0,_=>none
  |f+1,s=>if[32].isPrefixOf s=true then match kJ (s.drop 1) with
      |none=>none
      |some p=>sw [p.1] (nV f p.2)
    else some ([],s)
def qZ (a:List Nd):Option (List Nd×Bs)->Option (List Nd×Bs)
  |none=>none
  |some p=>some (a++p.1,p.2)
def pR (el:Bs->Option (Nd×Bs)):Nat->Bs->Option (List Nd×Bs)
  |0,_=>none
  |f+1,s=>if[60].isPrefixOf s=true/\[60,47].isPrefixOf s=false then match el s with
      |none=>none
      |some p=>qZ [p.1] (pR el f p.2)
    else some ([],s)
def lQ (nm:Bs):Bs:=[60,47]++nm++[62]
def iW:Nat->Bs->Option (Nd×Bs)
  |0,_=>none
  |f+1,s=>if[60].isPrefixOf s=true then
      if gT (s.drop 1)=[] then none
      else match nV ((qp (s.drop 1)).length+1) (qp (s.drop 1)) with
        |none=>none
        |some a=>if[47,62].isPrefixOf a.2=true then some (.mk (gT (s.drop 1)) a.1 [],a.2.drop 2)
          else if[62].isPrefixOf a.2=true then match pR (iW f) ((a.2.drop 1).length+1) (a.2.drop 1) with
            |none=>none
            |some k=>if(lQ (gT (s.drop 1))).isPrefixOf k.2=true then some (.mk (gT (s.drop 1)) a.1 k.1,k.2.drop (lQ (gT (s.drop 1))).length) else none
          else none
    else none
theorem Xq (o:Option (Bs×Bs)):vY [] o=o:=by cases o<;>rfl
theorem Kv (a b:Bs)(o:Option (Bs×Bs)):vY a (vY b o)=vY (a++b) o:=by cases o<;>simp[vY]
theorem Xr (o:Option (List (Bs×Bs)×Bs)):sw [] o=o:=by cases o<;>rfl
theorem Xt (a b:List (Bs×Bs))(o:Option (List (Bs×Bs)×Bs)):sw a (sw b o)=sw (a++b) o:=by cases o<;>simp[sw]
theorem Xu (o:Option (List Nd×Bs)):qZ [] o=o:=by cases o<;>rfl
theorem Xv (a b:List Nd)(o:Option (List Nd×Bs)):qZ a (qZ b o)=qZ (a++b) o:=by cases o<;>simp[qZ]
theorem EI (P:UInt8->Bool)(s:Bs):(s.takeWhile P).length+(s.dropWhile P).length=s.length:=by
  rw[<- List.length_append,List.takeWhile_append_dropWhile]
theorem zh (s:Bs):(gT s).length+(qp s).length=s.length:=EI _ s
theorem Py (s:Bs):(Lf s).length+(Ct s).length=s.length:=EI _ s
theorem fP {w s:Bs}(h:w.isPrefixOf s=true):w.length+(s.drop w.length).length=s.length:=by
  have:=(List.isPrefixOf_iff_prefix.1 h).length_le;rw[List.length_drop];omega
theorem Pz {u:Bs}{c:UInt8}{r:Bs}(h:xE u=some (c,r)):r.length+4<=u.length:=by
  unfold xE at h;split at h
  · rename_i k;cases h;have:=fP k;simp at this⊢;omega
  split at h
  · rename_i k;cases h;have:=fP k;simp at this⊢;omega
  split at h
  · rename_i k;cases h;have:=fP k;simp at this⊢;omega
  split at h
  · rename_i k;cases h;have:=fP k;simp at this⊢;omega
  · cases h
theorem Sz {a:Bs}{o:Option (Bs×Bs)}{p:Bs×Bs}(h:vY a o=some p):∃q,o=some q/\p=(a++q.1,q.2):=by
  cases o with
  |none=>cases h
  |some q=>cases h;exact⟨q,rfl,rfl⟩
theorem SG {a:List (Bs×Bs)}{o:Option (List (Bs×Bs)×Bs)}{p:List (Bs×Bs)×Bs}(h:sw a o=some p):∃q,o=some q/\p=(a++q.1,q.2):=by
  cases o with
  |none=>cases h
  |some q=>cases h;exact⟨q,rfl,rfl⟩
theorem SN {a:List Nd}{o:Option (List Nd×Bs)}{p:List Nd×Bs}(h:qZ a o=some p):∃q,o=some q/\p=(a++q.1,q.2):=by
  cases o with
  |none=>cases h
  |some q=>cases h;exact⟨q,rfl,rfl⟩
theorem Gr:∀(f:Nat) (s:Bs) (p:Bs×Bs),nQ f s=some p->p.1.length+p.2.length+1<=s.length
  |0,_,_,h=>by cases h
  |f+1,s,p,h=>by
    have ht:=Py s;rw[nQ] at h;split at h
    · rename_i k
      cases h;have:=fP k;simp at this⊢;omega
    · cases hm:xE (Ct s) with
      |none=>rw[hm] at h;cases h
      |some q=>
        rw[hm] at h;obtain⟨q',hq,rfl⟩:=Sz h;have h1:=Gr f _ _ hq;have h2:=Pz hm;simp;omega
theorem Xw {r:Bs}{p:(Bs×Bs)×Bs}(h:kJ r=some p):p.1.1.length+p.1.2.length+p.2.length+3<=r.length:=by
  unfold kJ at h;have ht:=zh r;split at h
  · cases h
  split at h
  · rename_i k
    have hl:=fP k;split at h
    · cases h
    · rename_i q hq
      cases h;have:=Gr _ _ _ hq;simp at hl this⊢;omega
  · cases h
theorem Gs:∀(f:Nat) (s:Bs) (p:List (Bs×Bs)×Bs),nV f s=some p->p.2.length+4*p.1.length<=s.length/\∀a∈p.1,a.1.length<=s.length/\a.2.length<=s.length
  |0,_,_,h=>by cases h
  |f+1,s,p,h=>by
    rw[nV] at h;split at h
    · rename_i k
      have hl:=fP k;split at h
      · cases h
      · rename_i q hq
        have h1:=Xw hq;obtain⟨q',hq',rfl⟩:=SG h;have h2:=Gs f _ _ hq';simp at hl h1;refine⟨by simp;omega,fun a ha=>?_⟩;simp at ha;rcases ha with rfl|ha
        · omega
        · have:=h2.2 a ha;omega
    · cases h
      simp
theorem PE {el:Bs->Option (Nd×Bs)}(hel:∀s p,el s=some p->p.2.length+1<=s.length):∀(f:Nat) (s:Bs) (p:List Nd×Bs),pR el f s=some p->p.2.length+p.1.length<=s.length
  |0,_,_,h=>by cases h
  |f+1,s,p,h=>by
    rw[pR] at h;split at h
    · split at h
      · cases h
      · rename_i q hq
        have h1:=hel _ _ hq;obtain⟨q',hq',rfl⟩:=SN h;have h2:=PE hel f _ _ hq';simp;omega
    · cases h
      simp
theorem PG:∀(f:Nat) (s:Bs) (p:Nd×Bs),iW f s=some p->p.2.length+1<=s.length
  |0,_,_,h=>by cases h
  |f+1,s,p,h=>by
    rw[iW] at h;split at h
    · rename_i k
      have hl:=fP k;have ht:=zh (s.drop 1);split at h
      · cases h
      split at h
      · cases h
      · rename_i a ha
        have h1:=(Gs _ _ _ ha).1;split at h
        · cases h;simp at hl ht h1⊢;omega
        split at h
        · split at h
          · cases h
          · rename_i q hq
            have h2:=PE (PG f) _ _ _ hq;split at h
            · cases h;simp at hl ht h1 h2⊢;omega
            · cases h
        · cases h
    · cases h
end
section
theorem a4B {c:UInt8}(h:I5 c=true):eB c=false:=by
 cases he:eB c with
 |false=>rfl
 |true=>
  unfold eB at he;simp only[Bool.or_eq_true,beq_iff_eq] at he;rcases he with((((rfl|rfl)|rfl)|rfl)|rfl)|rfl<;>exact absurd h (by decide)
theorem NC {nm:Bs}{d:UInt8}{r:Bs}(h:fo nm=true)(hd:eB d=true):gT (nm++d::r)=nm/\qp (nm++d::r)=d::r:=by
 have hp:∀c∈nm,(!eB c)=true:=fun c hc=>by rw[a4B (I6 h c hc)];rfl
 unfold gT qp;rw[List.takeWhile_append_of_pos hp,List.dropWhile_append_of_pos hp,List.takeWhile_cons_of_neg (by simp[hd]),List.dropWhile_cons_of_neg (by simp[hd])];simp
theorem Xx {c:UInt8}(h:mB c=false)(f:Nat)(s:Bs):nQ (f+1) (c::s)=vY [c] (nQ (f+1) s):=by
 have h1:Lf (c::s)=c::Lf s:=List.takeWhile_cons_of_pos (by simp[h]);have h2:Ct (c::s)=Ct s:=List.dropWhile_cons_of_pos (by simp[h]);rw[nQ,nQ,h1,h2];split
 ·rfl
 ·cases xE (Ct s) with
  |none=>rfl
  |some p=>simp[Kv]
theorem Ky {c:UInt8}(h:mB c=true)(s:Bs):Ct (c::s)=c::s/\Lf (c::s)=[]:=⟨List.dropWhile_cons_of_neg (by simp[h]),List.takeWhile_cons_of_neg (by simp[h])⟩
theorem a0H {c:UInt8}(h:mB c=true)(x:Bs):xE (zS c++x)=some (c,x)/\∃r,zS c++x=38::r:=by
 unfold mB at h;simp only[Bool.or_eq_true,beq_iff_eq] at h;rcases h with((rfl|rfl)|rfl)|rfl
 ·exact⟨by simp[xE,zS],⟨_,rfl⟩⟩
 ·exact⟨by simp[xE,zS],⟨_,rfl⟩⟩
 ·exact⟨by simp[xE,zS],⟨_,rfl⟩⟩
 ·exact⟨by simp[xE,zS],⟨_,rfl⟩⟩
theorem NG {c:UInt8}(h:mB c=false):zS c=[c]:=by
 unfold mB at h;simp only[Bool.or_eq_false_iff,beq_eq_false_iff_ne] at h;unfold zS;rw[if_neg h.1.1.1,if_neg h.1.1.2,if_neg h.1.2,if_neg h.2]
theorem Gt:∀(v:Bs) (f:Nat) (x:Bs),v.length<f->nQ f (qB v++34::x)=some (v,x)
 |[],0,_,h=>by simp at h
 |[],f+1,x,_=>by
  obtain⟨h1,h2⟩:=Ky (c:=34) rfl x;rw[qB,List.nil_append,nQ,h1,h2];simp
 |c::v,0,_,h=>by simp at h
 |c::v,f+1,x,h=>by
  rw[qB,List.append_assoc];cases hm:mB c with
  |false=>
   rw[NG hm];show nQ (f+1) (c::(qB v++34::x))=_;rw[Xx hm,Gt v (f+1) x (by simp at h;omega)];rfl
  |true=>
   obtain⟨h1,r,h2⟩:=a0H hm (qB v++34::x);rw[h2] at h1⊢;obtain⟨h3,h4⟩:=Ky (c:=38) rfl r;rw[nQ,h3,h4,h1,if_neg (by simp)];show vY ([]++[c]) (nQ f (qB v++34::x))=_;rw[Gt v f x (by simp at h;omega)];rfl
theorem PK:∀v:Bs,v.length<=(qB v).length
 |[]=>by simp[qB]
 |c::v=>by
  have h1:=PK v;have h2:1<=(zS c).length:=by
   unfold zS
   repeat' split
   all_goals simp
  simp[qB];omega
theorem a0I {a:Bs×Bs}{x:Bs}(h:fo a.1=true):kJ (a.1++61::34::(qB a.2++34::x))=some (a,x):=by
 obtain⟨h1,h2⟩:=NC (d:=61) (r:=34::(qB a.2++34::x)) h rfl;obtain⟨c,r,h3, -⟩:=rC h;have h4:a.1≠[]:=by rw[h3];simp
 have h5:=PK a.2;unfold kJ;rw[h1,h2,if_neg h4,if_pos (by simp)];show(match nQ ((qB a.2++34::x).length+1) (qB a.2++34::x) with
  |none=>none
  |some p=>some ((a.1,p.1),p.2))=_
 rw[Gt a.2 _ x (by simp;omega)]
theorem NH:∀(l:List (Bs×Bs)) (f:Nat) (x:Bs),(∀a∈l,fo a.1=true)->[32].isPrefixOf x=false->l.length<f->nV f (ku l++x)=some (l,x)
 |[],0,_,_,_,h=>by simp at h
 |[],f+1,x,_,hx,_=>by simp[ku,nV,hx]
 |a::l,0,_,_,_,h=>by simp at h
 |a::l,f+1,x,hl,hx,h=>by
  have e:ku (a::l)++x=32::(a.1++61::34::(qB a.2++34::(ku l++x))):=by simp[ku,atT]
  rw[e,nV,if_pos (by simp)];show(match kJ (a.1++61::34::(qB a.2++34::(ku l++x))) with
   |none=>none
   |some p=>sw [p.1] (nV f p.2))=_
  rw[a0I (hl a (by simp))];show sw [a] (nV f (ku l++x))=_;rw[NH l f x (fun b hb=>hl b (by simp[hb])) hx (by simp at h;omega)];rfl
theorem xG:∀l:List (Bs×Bs),l.length<=(ku l).length
 |[]=>by simp[ku]
 |a::l=>by have:=xG l;simp[ku,atT];omega
theorem EJ:∀l:List Nd,l.length<=(jT l).length
 |[]=>by simp[jT]
 | .mk nm ats ks::l=>by
  have:=EJ l;have:1<=(txt (.mk nm ats ks)).length:=by unfold txt;simp
  simp[jT];omega
theorem SQ {n:Nd}(h:gd n)(x:Bs):[60].isPrefixOf (txt n++x)=true/\[60,47].isPrefixOf (txt n++x)=false:=by
 obtain⟨nm,ats,ks⟩:=n;unfold gd at h;obtain⟨c,r,h3,h4⟩:=rC h.1;unfold txt;rw[h3];have hc:¬(47:UInt8)=c:=fun e=>by rw[<- e] at h4;exact absurd h4 (by decide)
 constructor
 ·simp
 ·simp[List.isPrefixOf,hc]
mutual
theorem Xy:∀(n:Nd) (f:Nat) (x:Bs),gd n->(txt n).length<=f->iW f (txt n++x)=some (n,x)
 | .mk nm ats ks,0,x,_,h=>by unfold txt at h;simp at h
 | .mk nm ats [],f+1,x,hg,h=>by
  unfold gd at hg;obtain⟨hn,ha, -⟩:=hg;have h0:txt (.mk nm ats [])++x=60::(nm++(ku ats++47::62::x)):=by rw[YR];simp
  rw[h0];have hd:∃d r,ku ats++47::62::x=d::r/\eB d=true:=by
   cases ats with
   |nil=>exact⟨47,_,rfl,rfl⟩
   |cons a l=>exact⟨32,_,rfl,rfl⟩
  obtain⟨d,r,hr,hd⟩:=hd;obtain⟨t1,t2⟩:=NC (r:=r) hn hd;rw[<- hr] at t1 t2;obtain⟨c,r',h3, -⟩:=rC hn;have h4:nm≠[]:=by rw[h3];simp
  have hl:=xG ats;rw[iW,if_pos (by simp),show(60::(nm++(ku ats++47::62::x))).drop 1=nm++(ku ats++47::62::x) from rfl,t1,t2,if_neg h4,NH ats ((ku ats++47::62::x).length+1) (47::62::x) ha (by rfl) (by simp;omega)];simp
 | .mk nm ats (k::l),f+1,x,hg,h=>by
  unfold gd at hg;obtain⟨hn,ha,hk⟩:=hg;have h0:txt (.mk nm ats (k::l))++x=60::(nm++(ku ats++62::(jT (k::l)++60::47::(nm++62::x)))):=by rw[I4];simp
  have hlen:(jT (k::l)).length<(txt (.mk nm ats (k::l))).length:=by rw[I4];simp;omega
  rw[h0];have hd:∃d r,ku ats++62::(jT (k::l)++60::47::(nm++62::x))=d::r/\eB d=true:=by
   cases ats with
   |nil=>exact⟨62,_,rfl,rfl⟩
   |cons a l=>exact⟨32,_,rfl,rfl⟩
  obtain⟨d,r,hr,hd⟩:=hd;obtain⟨t1,t2⟩:=NC (r:=r) hn hd;rw[<- hr] at t1 t2;obtain⟨c,r',h3, -⟩:=rC hn;have h4:nm≠[]:=by rw[h3];simp
  have hl:=xG ats;have hkl:=Xz (k::l) f ((jT (k::l)++60::47::(nm++62::x)).length+1) (nm++62::x) hk (by omega) (by have:=EJ (k::l);simp at this⊢;omega);have he:(lQ nm).isPrefixOf (60::47::(nm++62::x))=true:=List.isPrefixOf_iff_prefix.2 ⟨x,by simp[lQ]⟩;have hx:(60::47::(nm++62::x)).drop (lQ nm).length=x:=by
   rw[show 60::47::(nm++62::x)=lQ nm++x from by simp[lQ],List.drop_left]
  rw[iW,if_pos (by simp),show(60::(nm++(ku ats++62::(jT (k::l)++60::47::(nm++62::x))))).drop 1=nm++(ku ats++62::(jT (k::l)++60::47::(nm++62::x))) from rfl,t1,t2,if_neg h4,NH ats ((ku ats++62::(jT (k::l)++60::47::(nm++62::x))).length+1) (62::(jT (k::l)++60::47::(nm++62::x))) ha (by rfl) (by simp;omega)];show(if[47,62].isPrefixOf (62::(jT (k::l)++60::47::(nm++62::x)))=true then _ else if[62].isPrefixOf (62::(jT (k::l)++60::47::(nm++62::x)))=true then(match pR (iW f) ((jT (k::l)++60::47::(nm++62::x)).length+1) (jT (k::l)++60::47::(nm++62::x)) with
      |none=>none
      |some k=>if(lQ nm).isPrefixOf k.2=true then some (Nd.mk nm ats k.1,k.2.drop (lQ nm).length) else none) else none)=_
  rw[if_neg (by simp),if_pos (by simp),hkl];show(if(lQ nm).isPrefixOf (60::47::(nm++62::x))=true then some (Nd.mk nm ats (k::l),(60::47::(nm++62::x)).drop (lQ nm).length) else none)=_;rw[if_pos he,hx]
theorem Xz:∀(l:List Nd) (f m:Nat) (x:Bs),gdL l->(jT l).length<=f->l.length<m->pR (iW f) m (jT l++60::47::x)=some (l,60::47::x)
 |[],f,0,x,_,_,h=>by simp at h
 |[],f,m+1,x,_,_,_=>by simp[jT,pR]
 |k::l,f,0,x,_,_,h=>by simp at h
 |k::l,f,m+1,x,hg,hf,hm=>by
  unfold gdL at hg;obtain⟨hk,hl⟩:=hg;rw[jT,List.length_append] at hf;rw[jT,List.append_assoc,pR,if_pos (SQ hk _),Xy k f _ hk (by omega)];show qZ [k] (pR (iW f) m (jT l++60::47::x))=_;rw[Xz l f m x hl (by omega) (by simp at hm;omega)];rfl
end
end
end Go.Proofs.YtjfiehbcamfdfaaGreatDoor
