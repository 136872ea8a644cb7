/-
  Parts of the proof.
-/
import Derived.Test.YtjfiehbcamfdfaaGreatDoorQy29
namespace Go.Proofs.YtjfiehbcamfdfaaGreatDoor
section
section
variable {Ma Mb:Dm}{r:Int->Nat}
theorem a1W (M:Dm)(nm:Bs)(n:Int):sM M [] nm n=atM M n nm:=by
 unfold sM;cases atM M n nm with
 |none=>rfl
 |some v=>rfl
def szM (M:Dm)(f:Nat)(i:Int):Nat:=(pre M f i 0).length
theorem a4u (M:Dm):∀(f:Nat) (i d d':Int),(pre M f i d).length=(pre M f i d').length
 |0,_,_,_=>rfl
 |f+1,i,d,d'=>by
  rw[pre,pre];cases M i with
  |none=>rfl
  |some e=>
   simp only[List.length_cons,List.length_flatMap];congr 2;exact List.map_congr_left fun k _=>a4u M f k _ _
theorem a9K {M:Dm}{f:Nat}{i:Int}{e:iy}(he:M i=some e):szM M (f+1) i=(e.kids.map (szM M f)).sum+1:=by
 unfold szM;rw[pre,he];simp only[List.length_cons,List.length_flatMap];congr 2;exact List.map_congr_left fun k _=>a4u M f k _ _
end
end
section
def yZ (M:Dm):Nat->Int->Nd
  |0,_=>.mk [] [] []
  |f+1,n=>match M n with
    |none=>.mk [] [] []
    |some e=>.mk e.name e.ats (e.kids.map (yZ M f))
def F2 (R:Int->Int->Prop):List Int->List Int->Prop
  |[],[]=>True
  |a::l,b::m=>R a b/\F2 R l m
  |_,_=>False
def FL (L:List Int)(n k:Int):Prop:=∃i:Nat,L[i]? =some n/\k=i
def UpA (L:List Int)(p q:Int):Prop:=(p= -1/\q= -1)\/FL L p q
def GdE (M M':Dm)(L:List Int)(x k:Int):Prop:=∃e e',M x=some e/\M' k=some e'/\e'.name=e.name/\e'.ats=e.ats/\F2 (FL L) e.kids e'.kids/\UpA L e.parent e'.parent
def Seg (L:List Int)(k:Nat)(l:List Int):Prop:=∀(j:Nat) (x:Int),l[j]? =some x->L[k+j]? =some x
theorem Seg.left {L:List Int}{k:Nat}{a b:List Int}(h:Seg L k (a++b)):Seg L k a:=fun j x hx=>h j x (by rw[List.getElem?_append_left (List.getElem?_eq_some_iff.1 hx).1];exact hx)
theorem Seg.right {L:List Int}{k:Nat}{a b:List Int}(h:Seg L k (a++b)):Seg L (k+a.length) b:=fun j x hx=>by
  have:=h (a.length+j) x (by rw[List.getElem?_append_right (by omega),show a.length+j-a.length=j from by omega];exact hx);rw[Nat.add_assoc];exact this
section
variable {M M':Dm}{r:Int->Nat}{L:List Int}
theorem a6g (hw:Wd M r):∀(f:Nat) (n d:Int) (e:iy),M n=some e->Dp M f n->dQ (yZ M f n)=(pre M f n d).length
  |0,_,_,_,_,hd=>hd.elim
  |f+1,n,d,e,he,hd=>by
    rw[yZ,pre,he];simp only[dQ,List.length_cons,List.length_flatMap];have key:∀l:List Int,(∀k∈l,k∈e.kids)->iO (l.map (yZ M f))=(l.map (fun k=>(pre M f k (d+1)).length)).sum:=fun l=>by
      induction l with
      |nil=>intro _;rfl
      |cons a l ih=>
        intro hl;obtain⟨x,hx, -⟩:=hw.down n e a he (hl a (by simp));rw[List.map_cons,iO,List.map_cons,List.sum_cons,ih (fun k hk=>hl k (by simp[hk])),a6g hw f a (d+1) x hx (hd e he a (hl a (by simp)))]
    rw[key _ fun _ h=>h]
theorem a15 (f:Nat)(n d:Int){e:iy}(he:M n=some e)(hd:Dp M f n):((pre M f n d).map Prod.fst)[0]? =some n:=by
  cases f with
  |zero=>exact hd.elim
  |succ f=>rw[pre,he];rfl
theorem a3b (hw:Wd M r):∀(f:Nat) (n:Int) (k:Nat) (p d:Int) (e:iy),M n=some e->Dp M f n->InN M' k p (yZ M f n)->Seg L k ((pre M f n d).map Prod.fst)->UpA L e.parent p->∀(j:Nat) (x:Int),((pre M f n d).map Prod.fst)[j]? =some x->GdE M M' L x ((k+j:Nat):Int)
  |0,_,_,_,_,_,_,hd,_,_,_=>hd.elim
  |f+1,n,k,p,d,e,he,hd,hin,hseg,hup=>by
    have hn0:L[k]? =some n:=by
      have:=hseg 0 n (a15 (f+1) n d he hd);simpa using this
    rw[yZ,he] at hin;obtain⟨h1,h2⟩:=hin.parts;rw[pre,he] at hseg⊢;simp only[List.map_cons] at hseg⊢;have abR:Seg L (k+1) ((e.kids.flatMap (fun k=>pre M f k (d+1))).map Prod.fst):=by
      have:=Seg.right (a:=[n]) (by simpa using hseg);simpa using this
    have key:∀(l:List Int) (q:Nat),(∀a∈l,a∈e.kids)->InL M' q k (l.map (yZ M f))->Seg L q ((l.flatMap (fun k=>pre M f k (d+1))).map Prod.fst)->
        F2 (FL L) l (oh q (l.map (yZ M f)))/\∀(j:Nat) (x:Int),((l.flatMap (fun k=>pre M f k (d+1))).map Prod.fst)[j]? =some x->GdE M M' L x ((q+j:Nat):Int):=fun l=>by
      induction l with
      |nil=>intro q _ _ _;exact⟨trivial,fun j x hx=>by simp at hx⟩
      |cons a l ih=>
        intro q hl hI hS;obtain⟨x,hx,hxp, -⟩:=hw.down n e a he (hl a (by simp));have hda:=hd e he a (hl a (by simp));rw[List.map_cons] at hI;obtain⟨i1,i2⟩:=hI.parts;rw[List.flatMap_cons,List.map_append] at hS⊢;have hlen:=a6g hw f a (d+1) x hx hda;have s1:=hS.left;have s2:=hS.right;rw[List.length_map,<- hlen] at s2;obtain⟨g1,g2⟩:=ih (q+dQ (yZ M f a)) (fun b hb=>hl b (by simp[hb])) i2 s2;have ga:=a3b hw f a q k (d+1) x hx hda i1 s1 (.inr (by rw[hxp];exact⟨k,hn0,rfl⟩));constructor
        · rw[List.map_cons,oh]
          refine⟨⟨q,?_,rfl⟩,g1⟩;have:=s1 0 a (a15 f a (d+1) hx hda);simpa using this
        · intro j y hy
          by_cases hj:j<((pre M f a (d+1)).map Prod.fst).length
          · rw[List.getElem?_append_left hj] at hy
            exact ga j y hy
          · rw[List.getElem?_append_right (by omega)] at hy
            have:=g2 _ y hy;rw[List.length_map,<- hlen] at this hj;rw[show q+dQ (yZ M f a)+(j-dQ (yZ M f a))=q+j from by omega] at this;exact this
    obtain⟨k1,k2⟩:=key e.kids (k+1) (fun _ h=>h) h2 abR;intro j x hx;cases j with
    |zero=>
      simp at hx;subst hx;exact⟨e,⟨e.name,e.ats,p,oh (k+1) (e.kids.map (yZ M f))⟩,he,by simpa using h1,rfl,rfl,k1,hup⟩
    |succ j=>
      have:=k2 j x (by simpa using hx);rw[show k+1+j=k+(j+1) from by omega] at this;exact this
structure o8 (M M':Dm)(r:Int->Nat)(L:List Int):Prop where
  wd:Wd M r
  good:∀(i:Nat) (x:Int),L[i]? =some x->GdE M M' L x (i:Int)
  all:allM M=L
  all':allM M'=nums 0 L.length
  nodup:L.Nodup
theorem a9L (hw:Wd M r)(hin:InN M' 0 (-1) (yZ M 11 0))(hall:allM M'=nums 0 (allM M).length):o8 M M' r (allM M):=by
  obtain⟨e0,he0,hp0⟩:=hw.root;have hd:=hw.dp 11 0 e0 he0 (by omega);refine⟨hw,fun i x hx=>?_,rfl,hall,hw.DT 11 0 1⟩;have:=a3b (M':=M') (L:=allM M) hw 11 0 0 (-1) 1 e0 he0 hd hin (fun j y hy=>by rw[Nat.zero_add];exact hy) (.inl ⟨hp0,rfl⟩) i x hx;rw[Nat.zero_add] at this;exact this
theorem o8.eq (h:o8 M M' r L){a b c d:Int}(h1:FL L a b)(h2:FL L c d):a=c↔b=d:=by
  obtain⟨i,hi,rfl⟩:=h1;obtain⟨j,hj,rfl⟩:=h2;constructor
  · rintro rfl
    have hil:=(List.getElem?_eq_some_iff.1 hi).1;have:=(List.getElem?_inj hil h.nodup).1 (hi.trans hj.symm);omega
  · intro e
    have:i=j:=by omega
    subst this;rw[hi] at hj;cases hj;rfl
theorem o8.a18 (h:o8 M M' r L){n k:Int}(hp:FL L n k):GdE M M' L n k:=by
  obtain⟨i,hi,rfl⟩:=hp;exact h.good i n hi
theorem o8.pos (h:o8 M M' r L){n k:Int}(hp:FL L n k):0<=n/\0<=k:=by
  obtain⟨e,e',h1, -⟩:=h.a18 hp;obtain⟨i,hi,rfl⟩:=hp;exact⟨h.wd.pos h1,by omega⟩
theorem o8.mem (h:o8 M M' r L){n k:Int}(hp:FL L n k):∀{l l':List Int},F2 (UpA L) l l'->(n∈l↔k∈l')
  |[],[],_=>by simp
  |a::l,b::l',hF=>by
    obtain⟨h1,h2⟩:=hF;rw[List.mem_cons,List.mem_cons,h.mem hp h2];have hpos:=h.pos hp;have:n=a↔k=b:=by
      rcases h1 with⟨rfl,rfl⟩|h1
      · constructor<;>intro e<;>omega
      · exact h.eq hp h1
    rw[this]
  |[],_::_,hF=>hF.elim
  |_::_,[],hF=>hF.elim
theorem o8.at_ (h:o8 M M' r L){n k:Int}(hp:FL L n k)(nm:Bs):atM M' k nm=atM M n nm:=by
  obtain⟨e,e',h1,h2, -,h4, -⟩:=h.a18 hp;unfold atM;rw[h1,h2];show iK e'.ats nm=iK e.ats nm;rw[h4]
theorem o8.name (h:o8 M M' r L){n k:Int}(hp:FL L n k):GI M' k=GI M n:=by
  obtain⟨e,e',h1,h2,h3, -⟩:=h.a18 hp;unfold GI;rw[h1,h2];exact h3
theorem o8.DR (h:o8 M M' r L)(nm:Bs):∀(f:Nat) (n k:Int),UpA L n k->Go.Proofs.YtjfiehbcamfdfaaGreatDoor.DR M' [] nm f k=Go.Proofs.YtjfiehbcamfdfaaGreatDoor.DR M [] nm f n
  |0,_,_,_=>rfl
  |f+1,n,k,hu=>by
    unfold Go.Proofs.YtjfiehbcamfdfaaGreatDoor.DR;rcases hu with⟨rfl,rfl⟩|hp
    · rfl
    · obtain⟨h1,h2⟩:=h.pos hp
      rw[if_neg (show¬k<0 from by omega),if_neg (show¬n<0 from by omega),a1W,a1W,h.at_ hp];cases atM M n nm with
      |some v=>rfl
      |none=>
        dsimp only;obtain⟨e,e',h3,h4, -, -, -,h5⟩:=h.a18 hp;have e1:qC M n=e.parent:=by unfold qC;rw[h3]
        have e2:qC M' k=e'.parent:=by unfold qC;rw[h4]
        rw[e1,e2,h.DR nm f _ _ h5]
theorem o8.of_ (h:o8 M M' r L){n k:Int}(hp:FL L n k)(nm:Bs):ofM M' [] nm k=ofM M [] nm n:=by
  obtain⟨e,e',h1,h2, -⟩:=h.a18 hp;unfold ofM;rw[h1,h2,h.DR nm 12 n k (.inr hp)];rfl
theorem o8.val (h:o8 M M' r L){n k:Int}(hp:FL L n k)(nm:Bs):FM M' k nm=FM M n nm:=by
  unfold FM;rw[h.at_ hp]
theorem o8.move (h:o8 M M' r L){n k:Int}(hp:FL L n k)(m:Mv):iG M' k m=iG M n m:=by
  unfold iG;rw[h.val hp]
theorem o8.a7l (h:o8 M M' r L){n k:Int}(hp:FL L n k)(nm:Bs):dS M' k nm=dS M n nm:=by
  unfold dS;rw[h.at_ hp]
theorem o8.box (h:o8 M M' r L){n k:Int}(hp:FL L n k):Mq M' k=Mq M n:=by
  unfold Mq;rw[h.a7l hp,h.a7l hp,h.a7l hp,h.a7l hp]
theorem o8.poly (h:o8 M M' r L){n k:Int}(hp:FL L n k):yh M' k=yh M n:=by
  unfold yh;rw[h.val hp]
theorem o8.shown (h:o8 M M' r L){n k:Int}(hp:FL L n k):Ay M' [] k=Ay M [] n:=by
  unfold Ay;rw[h.name hp,h.of_ hp]
def OpA (L:List Int):Option Int->Option Int->Prop
  |none,none=>True
  |some a,some b=>FL L a b
  |_,_=>False
theorem a3g {p q:Int->Bool}(hpq:∀x y,FL L x y->p x=q y):∀{l l':List Int},F2 (FL L) l l'->OpA L (l.find? p) (l'.find? q)
  |[],[],_=>trivial
  |a::l,b::l',hF=>by
    obtain⟨h1,h2⟩:=hF;rw[List.find?_cons,List.find?_cons,<- hpq a b h1];cases p a with
    |true=>exact h1
    |false=>exact a3g hpq h2
  |[],_::_,hF=>hF.elim
  |_::_,[],hF=>hF.elim
theorem a4y:∀(l:List Int) (k:Nat),Seg L k l->F2 (FL L) l (nums k l.length)
  |[],_,_=>trivial
  |a::l,k,h=>by
    rw[List.length_cons,a1Q];refine⟨⟨k,by have:=h 0 a rfl;simpa using this,rfl⟩,a4y l (k+1) (fun j x hx=>?_)⟩;have:=h (j+1) x (by simpa using hx);rw[show k+1+j=k+(j+1) from by omega];exact this
theorem o8.led (h:o8 M M' r L){n k:Int}(hp:FL L n k):OpA L (Jo M n) (Jo M' k):=by
  unfold Jo;rw[h.at_ hp];cases atM M n kOf with
  |none=>trivial
  |some v=>
    dsimp only;rw[h.all,h.all'];refine a3g (fun x y hxy=>?_) (a4y L 0 (fun j x hx=>by rw[Nat.zero_add];exact hx));rw[h.at_ hxy]
def strip (p:Pc):List Qt×Bs×Bs×Int:=(p.pts,p.fill,p.rule,p.lv)
def SmR (x y:Except Ft (Nat×List Pc)):Prop:=match x,y with
  | .error e,.error e'=>e.code=e'.code
  | .ok s,.ok t=>s.1=t.1/\s.2.map strip=t.2.map strip
  |_,_=>False
theorem o8.piece (h:o8 M M' r L){n k:Int}(hp:FL L n k)(m:Mv)(x:Except Nat (List Qt)){s t:Nat×List Pc}(hs:s.1=t.1/\s.2.map strip=t.2.map strip):SmR (gK M [] n m x s) (gK M' [] k m x t):=by
  unfold gK;rw[h.of_ hp,h.of_ hp,h.of_ hp];cases x with
  |error c=>exact rfl
  |ok q=>
    dsimp only;cases Tv m q with
    |none=>exact rfl
    |some q'=>
      dsimp only;by_cases hf:ofM M [] sJ n=tC
      · rw[if_pos hf,if_pos hf]
        exact hs
      · rw[if_neg hf,if_neg hf]
        refine⟨hs.1,?_⟩;simp only[List.map_append,hs.2];rfl
theorem a3h {A B:Nat×List Pc->Int->Except Ft (Nat×List Pc)}:∀(l l':List Int) (s t:Nat×List Pc),F2 (FL L) l l'->(∀a b,FL L a b->∀s t:Nat×List Pc,s.1=t.1/\s.2.map strip=t.2.map strip->SmR (A s a) (B t b))->s.1=t.1/\s.2.map strip=t.2.map strip->SmR (l.foldlM A s) (l'.foldlM B t)
  |[],[],_,_,_,_,hs=>hs
  |a::l,b::l',s,t,hF,H,hs=>by
    obtain⟨h1,h2⟩:=hF;have h3:=H a b h1 s t hs;rw[List.foldlM_cons,List.foldlM_cons];cases hA:A s a with
    |error e=>cases hB:B t b with
      |error e'=>rw[hA,hB] at h3;exact h3
      |ok v=>rw[hA,hB] at h3;exact h3.elim
    |ok u=>cases hB:B t b with
      |error e'=>rw[hA,hB] at h3;exact h3.elim
      |ok v=>rw[hA,hB] at h3;exact a3h l l' u v h2 H h3
  |[],_::_,_,_,hF,_,_=>hF.elim
  |_::_,[],_,_,hF,_,_=>hF.elim
theorem o8.come (h:o8 M M' r L):∀(f:Nat) (n k:Int) (path path':List Int) (m:Mv) (s t:Nat×List Pc),FL L n k->F2 (UpA L) path path'->s.1=t.1/\s.2.map strip=t.2.map strip->SmR (dm M [] f n path m s) (dm M' [] f k path' m t)
  |0,n,k,path,path',m,s,t,hp,hF,hs=>by
    rw[dm,dm];have hm:=h.mem hp hF;by_cases hn:n∈path
    · rw[if_pos hn,if_pos (hm.1 hn)]
      exact rfl
    · rw[if_neg hn,if_neg (fun x=>hn (hm.2 x))]
      exact rfl
  |f+1,n,k,path,path',m,s,t,hp,hF,hs=>by
    rw[dm,dm];have hm:=h.mem hp hF;by_cases hn:n∈path
    · rw[if_pos hn,if_pos (hm.1 hn)]
      exact rfl
    · rw[if_neg hn,if_neg (fun x=>hn (hm.2 x)),<- hs.1]
      by_cases hc:100<=s.1
      · rw[if_pos hc,if_pos hc]
        exact rfl
      · rw[if_neg hc,if_neg hc,h.shown hp]
        by_cases hsh:Ay M [] n=false
        · rw[if_pos hsh,if_pos hsh]
          exact⟨rfl,hs.2⟩
        · rw[if_neg hsh,if_neg hsh,h.move hp]
          cases iG M n m with
          |error c=>exact rfl
          |ok m'=>
            dsimp only;rw[h.name hp,h.box hp,h.poly hp];by_cases hb:GI M n=vB
            · rw[if_pos hb,if_pos hb]
              exact h.piece hp m' _ ⟨rfl,hs.2⟩
            · rw[if_neg hb,if_neg hb]
              by_cases hy:GI M n=lZ
              · rw[if_pos hy,if_pos hy]
                exact h.piece hp m' _ ⟨rfl,hs.2⟩
              · rw[if_neg hy,if_neg hy]
                have hF':F2 (UpA L) (n::path) (k::path'):=⟨.inr hp,hF⟩;by_cases hg:GI M n=jf
                · rw[if_pos hg,if_pos hg]
                  obtain⟨e,e',h3,h4, -, -,h5, -⟩:=h.a18 hp;have e1:dm.Vo M n=e.kids:=by unfold dm.Vo;rw[h3]
                  have e2:dm.Vo M' k=e'.kids:=by unfold dm.Vo;rw[h4]
                  rw[e1,e2];exact a3h _ _ _ _ h5 (fun a b hab s t hst=>h.come f a b _ _ m' s t hab hF' hst) ⟨rfl,hs.2⟩
                · rw[if_neg hg,if_neg hg]
                  have hl:=h.led hp;cases h1:Jo M n with
                  |none=>cases h2:Jo M' k with
                    |none=>exact rfl
                    |some b=>rw[h1,h2] at hl;exact hl.elim
                  |some a=>cases h2:Jo M' k with
                    |none=>rw[h1,h2] at hl;exact hl.elim
                    |some b=>
                      rw[h1,h2] at hl;exact h.come f a b _ _ m' _ _ hl hF' ⟨rfl,hs.2⟩
theorem a3i {l l':List Pc}(h:l.map strip=l'.map strip):(tH l).map strip=(tH l').map strip:=by
  have key:∀(l:List Pc),(tH l).map strip=(List.range 1000).flatMap (fun(k:Nat)=>(l.map strip).filter (fun x=>x.2.2.2==(k:Int))):=fun l=>by
    unfold tH;rw[List.map_flatMap];congr 1;funext k;rw[List.filter_map];rfl
  rw[key,key,h]
theorem o8.pieces (h:o8 M M' r L):match di M [],di M' [] with
    | .error e,.error e'=>e.code=e'.code
    | .ok p,.ok q=>p.map strip=q.map strip
    |_,_=>False:=by
  obtain⟨e0,he0, -⟩:=h.wd.root;have h0:L[0]? =some 0:=by
    rw[<- h.all];exact a15 11 0 1 he0 (h.wd.dp 11 0 e0 he0 (by omega))
  have key:=h.come 101 0 0 [-1] [-1] .one (0,[]) (0,[]) ⟨0,h0,rfl⟩ ⟨.inl ⟨rfl,rfl⟩,trivial⟩ ⟨rfl,rfl⟩;unfold di;cases hA:dm M [] 101 0 [-1] .one (0,[]) with
  |error e=>cases hB:dm M' [] 101 0 [-1] .one (0,[]) with
    |error e'=>rw[hA,hB] at key;exact key
    |ok v=>rw[hA,hB] at key;exact key.elim
  |ok u=>cases hB:dm M' [] 101 0 [-1] .one (0,[]) with
    |error e'=>rw[hA,hB] at key;exact key.elim
    |ok v=>rw[hA,hB] at key;exact a3i key.2
end
end
section
def dY (p:Pc):Pm:=⟨p.pts,⟨p.fill.toArray⟩,⟨p.rule.toArray⟩⟩
def nI (p:Pc):Bs×Bs×List Qt:=(p.fill,p.rule,p.pts)
def wZ (l:List Pc)(y:Int):List Pc:=l.filter fun p=>aC p.pts y
def FP (a b:List Pc):Prop:=a.map nI=b.map nI
def gL (a b:List Pc)(h:Nat):List Nat:=(List.range h).filter fun(y:Nat)=> !decide ((wZ a y).map nI=(wZ b y).map nI)
def Az (cells:List ByteArray)(b:List Pc)(w:Nat):List Nat->List ByteArray
 |[]=>cells
 |y::l=>Az (cells.take (w*y)++mq aC (b.map dY) w (y:Int)++cells.drop (w*y+w)) b w l
theorem Mr (l:List Pc)(y:Int):(l.map dY).filter (fun s=>aC s.pts y)=(wZ l y).map dY:=by
 unfold wZ;rw[List.filter_map];rfl
theorem OL {a b:List Pc}(h:FP a b):a.map dY=b.map dY:=by
 have:∀l:List Pc,l.map dY=(l.map nI).map (fun x=>(⟨x.2.2,⟨x.1.toArray⟩,⟨x.2.1.toArray⟩⟩:Pm)):=fun l=>by
  rw[List.map_map];rfl
 rw[this a,this b,show a.map nI=b.map nI from h]
theorem Vp {a b:List Pc}{w:Nat}{y:Int}(h:FP (wZ a y) (wZ b y)):mq aC (a.map dY) w y=mq aC (b.map dY) w y:=by
 unfold mq;rw[Mr,Mr,OL h]
theorem Vq (a b:List Pc)(h:Nat):(gL a b h).Pairwise (·<·)/\∀y∈gL a b h,y<h:=by
 refine⟨List.pairwise_lt_range.filter _,fun y hy=>?_⟩;unfold gL at hy;exact List.mem_range.1 (List.mem_filter.1 hy).1
theorem ZI {a b:List Pc}{h y:Nat}:y∈gL a b h↔y<h/\¬FP (wZ a y) (wZ b y):=by
 unfold gL FP;simp[List.mem_filter]
theorem CJ {α:Type}{a b:List α}{w h:Nat}(ha:a.length=w*h)(hb:b.length=w*h)(hr:∀y,y<h->(a.drop (w*y)).take w=(b.drop (w*y)).take w):a=b:=by
 induction h generalizing a b with
 |zero=>
  rw[Nat.mul_zero] at ha hb;rw[List.length_eq_zero_iff.1 ha,List.length_eq_zero_iff.1 hb]
 |succ h ih=>
  have h0:=hr 0 (by omega);rw[Nat.mul_zero,List.drop_zero,List.drop_zero] at h0;have h1:a.drop w=b.drop w:=by
   refine ih (by rw[List.length_drop,ha,Nat.mul_succ];omega) (by rw[List.length_drop,hb,Nat.mul_succ];omega) fun y hy=>?_;have:=hr (y+1) (by omega);rw[Nat.mul_succ] at this;rw[List.drop_drop,List.drop_drop,Nat.add_comm w];exact this
  rw[<- List.take_append_drop w a,h0,h1,List.take_append_drop]
theorem OM {α:Type}{c row:List α}{w h y:Nat}(hc:c.length=w*h)(hr:row.length=w)(hy:y<h):(c.take (w*y)++row++c.drop (w*y+w)).length=w*h/\∀z,z<h->((c.take (w*y)++row++c.drop (w*y+w)).drop (w*z)).take w=if z=y then row else(c.drop (w*z)).take w:=by
 have h1:w*(y+1)<=w*h:=Nat.mul_le_mul_left w hy;rw[Nat.mul_succ] at h1;have hl:(c.take (w*y)).length=w*y:=by rw[List.length_take];omega
 refine⟨by rw[List.length_append,List.length_append,List.length_drop,hl,hr,hc];omega,fun z hz=>?_⟩;by_cases e:z=y
 ·subst e;rw[if_pos rfl,List.append_assoc,List.drop_append_of_le_length (by omega),List.drop_eq_nil_of_le (by omega),List.nil_append,List.take_append_of_le_length (by omega),List.take_of_length_le (by omega)]
 ·rw[if_neg e];have h2:w*(z+1)<=w*h:=Nat.mul_le_mul_left w hz;rw[Nat.mul_succ] at h2;by_cases hlt:z<y
  ·have h3:w*(z+1)<=w*y:=Nat.mul_le_mul_left w hlt;rw[Nat.mul_succ] at h3;rw[List.append_assoc,List.drop_append_of_le_length (by omega),List.take_append_of_le_length (by rw[List.length_drop];omega),List.drop_take,List.take_take,Nat.min_eq_left (by omega)]
  ·have h3:w*(y+1)<=w*z:=Nat.mul_le_mul_left w (by omega);rw[Nat.mul_succ] at h3;rw[List.drop_append,List.drop_eq_nil_of_le (by rw[List.length_append];omega),List.nil_append,List.length_append,hl,hr,List.drop_drop];congr 2;omega
theorem Eo {c:List ByteArray}{b:List Pc}{w h:Nat}:∀(l:List Nat),c.length=w*h->(∀y∈l,y<h)->(Az c b w l).length=w*h/\∀z,z<h->((Az c b w l).drop (w*z)).take w=if z∈l then mq aC (b.map dY) w (z:Int) else(c.drop (w*z)).take w
 |[],hc,_=>⟨hc,fun z _=>by rw[if_neg (by simp)];rfl⟩
 |y::l,hc,hy=>by
  rw[Az];obtain⟨p1,p2⟩:=OM hc (ng aC (b.map dY) w (y:Int)) (hy y (by simp));obtain⟨k1,k2⟩:=Eo l p1 (fun z hz=>hy z (by simp[hz]));refine⟨k1,fun z hz=>?_⟩;rw[k2 z hz,p2 z hz];by_cases h1:z∈l
  ·rw[if_pos h1,if_pos (by simp[h1])]
  ·rw[if_neg h1];by_cases h2:z=y
   ·subst h2;rw[if_pos rfl,if_pos (by simp)]
   ·rw[if_neg h2,if_neg (by simp[h1,h2])]
theorem Vs (a b:List Pc)(w h:Nat):Az (iZ aC (a.map dY) w h) b w (gL a b h)=iZ aC (b.map dY) w h:=by
 obtain⟨k1,k2⟩:=Eo (b:=b) (gL a b h) (gF aC (a.map dY) w h) (Vq a b h).2;refine CJ k1 (gF _ _ _ _) fun y hy=>?_;rw[k2 y hy];by_cases hm:y∈gL a b h
 ·rw[if_pos hm,uN _ _ _ _ _ hy]
 ·rw[if_neg hm,uN _ _ _ _ _ hy,uN _ _ _ _ _ hy];rw[ZI] at hm;exact Vp (Classical.byContradiction fun hn=>hm ⟨hy,hn⟩)
theorem a3u {a b:List Pc}(h:a.map strip=b.map strip):a.map dY=b.map dY:=by
 have:∀l:List Pc,l.map dY=(l.map strip).map (fun x=>(⟨x.1,⟨x.2.1.toArray⟩,⟨x.2.2.1.toArray⟩⟩:Pm)):=fun l=>by
  rw[List.map_map];rfl
 rw[this a,this b,h]
end
section
open Go.RowKit
def bZ.p5 (x:bZ):P5:=⟨x.nd,x.o,x.cap,⟨x.pts,⟨x.fill.toArray⟩,⟨x.rule.toArray⟩⟩,x.lv⟩
theorem JU:∀l:List bZ,cells5 (l.map bZ.p5)=cellsS l
 |[]=>rfl
 |x::l=>by rw[List.map_cons,cells5,JU l];rfl
theorem a1M (l:List bZ):sP (l.map bZ.p5)=(l.map bZ.pc).map dY:=by
 rw[sP,List.map_map,List.map_map];rfl
structure uA (w:World)(base:Nat)(v:Value)(qs:List bZ):Prop where
 own:w.ownsRow base 138 5 v qs.length (cellsS qs)
 pts:∀x∈qs,fV w base (BH x) x.pts
 rt:∀x∈qs,∀a∈x.pts,dD a=0
section
variable {w w':World}{base:Nat}{v:Value}{qs:List bZ}
theorem uA.below (h:uA w base v qs)(hb:Below w.heap.size w w'):uA w' base v qs:=⟨aK h.own hb,fun x hx=>(h.pts x hx).keep hb,h.rt⟩
theorem uA.low (h:uA w base v qs){b:Nat}(hb:b<=base):uA w b v qs:=⟨eu h.own hb,fun x hx=>(h.pts x hx).low hb,h.rt⟩
theorem a0m {a:Qt}(h:dD a=0):PI a:=by
 obtain⟨h1,h2⟩:=eO.1 h;rw[dA] at h1 h2;refine⟨⟨?_,?_⟩,⟨?_,?_⟩,⟨?_,?_⟩,⟨?_,?_⟩⟩<;>omega
theorem uA.row (h:uA w base v qs):∃o cap,v=.slice o (qs.map bZ.p5).length cap/\yF w o cap (qs.map bZ.p5)/\iC w (qs.map bZ.p5):=by
 obtain⟨o,cap,h1,h2, -,h4,h5⟩:=bA h.own;refine⟨o,cap,by rw[List.length_map];exact h1,⟨fun i x hx=>?_,by rw[List.length_map];exact h2,h4⟩,fun x hx=>?_⟩
 ·obtain⟨c0,c1,c2,c3,c4⟩:=ug _ i x hx;rw[JU] at c0 c1 c2 c3 c4;obtain⟨g,hg,e0⟩:=bJ h.own _ _ c0;have e:∀{j:Nat} {u:Value},(cellsS qs)[j]? =some u->w.cell? (ag g j)=some u:=fun{j u} hj=>by
   obtain⟨g',hg',e1⟩:=bJ h.own j u hj;rw[hg] at hg';cases hg';exact e1
  exact⟨g,0,h5 g hg,by rw[Nat.zero_add];exact⟨e0,e c1,e c2,e c3,e c4⟩⟩
 ·obtain⟨y,hy,rfl⟩:=List.mem_map.1 hx;obtain⟨o',cap',h6,h7⟩:=(h.pts y hy).at_ (fun a ha=>a0m (h.rt y hy a ha));have h6:Value.slice y.o y.pts.length y.cap=.slice o' y.pts.length cap':=h6;cases h6;exact h7
end
end
end Go.Proofs.YtjfiehbcamfdfaaGreatDoor
