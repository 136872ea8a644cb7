import Derived.Test.YtbkjmamcnflncaaGreatDoorQs22
namespace Go.Proofs.YtbkjmamcnflncaaGreatDoor
open Go.Proofs.Tryz
set_option maxHeartbeats 8000000
section
open Go.RowKit Go.Shelf
set_option maxRecDepth 100000
attribute [local go_sem] Oper.semAt_some
structure Eg where
 a:Qt
 b:Qt
 ha:PB a
 hb:PB b
abbrev egV (x:Eg):Array au:=#[qR x.a,qR x.b]
def xu (T:Nat->Prop)(A C:ah):Prop:=∀k,T k->C.heap[k]? =A.heap[k]?
theorem xu.refl {T:Nat->Prop}(X:ah):xu T X X:=λ_ _=>rfl
theorem xu.trans {T:Nat->Prop}{X Y Z:ah}(h:xu T X Y)(k:xu T Y Z):xu T X Z:=λj a=>(k j a).trans (h j a)
theorem xu.of_below {T:Nat->Prop}{A C:ah}{n:Nat}(h:Below n A C)(a:∀k,T k->k<n):xu T A C:=λj b=>h.block j (a j b)
theorem xu.put {T:Nat->Prop}{w:ah}(a:∀k,T k->k<w.heap.size)(W:ah)(l:Nat)(o b:Obj)(d:w.heap.size<=l)(_:W.heap[l]? =some o)(_:o.isCells=false)(_:o.isWalk=false):xu T W (W.putObj l b):=λj c=>nH (by have:=a j c;omega)
theorem grown_of {A C:ah}(h:aD A C):A.grownBy C none:=⟨h.os,h.tape,h.output,h.size,λk a _=>h.block k a⟩
theorem cell_of_heap {A C:ah}{p:Addr}(h:C.heap[p.block]? =A.heap[p.block]?):C.cell? p=A.cell? p:=qg h
def edT (Bs:Nat)(o:Option Addr)(l:List Qt)(k:Nat):Prop:=k=Bs\/(l≠[]/\∃a,o=some ⟨k,a,none⟩)
theorem iw.kept {w w':ah}{o:Option Addr}{l:List Qt}{Bs:Nat}(h:iw w o l)(j:xu (edT Bs o l) w w'):iw w' o l:=λi a f=>by
 obtain⟨b,c,g,k,m,n,q,e⟩:=h i a f;have d:=j b (.inr ⟨by rintro rfl;simp at f,c,g⟩);exact⟨b,c,g,(cell_of_heap (p:=⟨b,_,none⟩) d).trans k,(cell_of_heap (p:=⟨b,_,none⟩) d).trans m,(cell_of_heap (p:=⟨b,_,none⟩) d).trans n,(cell_of_heap (p:=⟨b,_,none⟩) d).trans q,e⟩
theorem Uo {J c:List Eg->ah->Prop}{T:Nat->Prop}{pre:List Eg}{x:Eg}{d a:ah}{e:Ending}(h:(e=ax (.bool true)/\J (pre++[x]) a/\xu T d a)\/(e=ax (.bool false)/\c (pre++[x]) a)):
  ∃b,e=ax (.bool b)/\((b=true/\J (pre++[x]) a/\xu T d a)\/(b=false/\c (pre++[x]) a)):=by grind
theorem Qy {a:Type}(b:List a)(k:Nat)(h:k<b.length):b.take (k+1)=b.take k++[b[k]]:=by
 rw[dS,eZ h];rfl
theorem a2F {k n:Nat}:((k:Int)+1).tmod (n:Int)=(((k+1) % n:Nat):Int):=by grind
theorem YX (l:List Qt)(d:List Eg)(q:d.map (λe=>(e.a,e.b))=oh l)(hl:l.length<=1000)(o:Option Addr)(g n Bs:Nat)(w0:ah)(hB:w0.heap[Bs]? =some (ai #[aj o l.length g] 113))(hP:iw w0 o l):
  SeqStopsK Fence.wide n prog 346 #[aI Bs] egV (xu (edT Bs o l)) (λys=>ys=d) (λp=>p<+:d) d.length w0:=by
 intro L J Jx W hW hJ b3 hY h0;have P:Bs<w0.heap.size:=(dZ.1 hB).1;have Q:W.heap[Bs]? =some (ai #[aj o l.length g] 113):=(hW.block Bs P).trans hB;have c0:W.cell? (aH Bs 0)=some (aj o l.length g):=by simp[World.cell?,Q]
 have R:∀p A C,J p A->aD A C->J p C:=λp A C h hb=>hJ p A C none h (grown_of hb) (λr e=>by cases e);have a6:d.length=l.length:=by rw[<- Ka l,<- q,dF]
 have s:=hP.below hW ay;refine callsIn_of_wp func346 rfl trivial ?_ rfl;simp only[ntmps346,ji,eP,iO,Nat.reduceAdd,Nat.reduceSub,jM,jL,jO,jN,gF,fV]
 gi_wp2
 gi_loopw [8] (λi wr=>∃k:Nat,k<=l.length/\i=ag k/\J (d.take k) wr/\xu (edT Bs o l) W wr) (λi _=>l.length-(intOf i).toNat)
 case atStart=>exact⟨0,bf _,rfl,h0,xu.refl _⟩
 case round=>
  obtain⟨k,hk,rfl,t,f⟩:=hrel;by_cases u:k<l.length
  .have a7:(k:Int)<(l.length:Int):=aa;have v:k<d.length:=aa;obtain⟨a,b,ea,eb,w⟩:=Y9 u;have S:(d[k].a,d[k].b)=(a,b):=by
    have h1:(d.map (λe=>(e.a,e.b)))[k]? =some (a,b):=by rw[q];exact w
    rw[iN,eZ v] at h1;simpa using h1
   have m:=Qy d k v;have y:(d.take k).length<d.length:=by rw[iV];omega
   obtain⟨x,z⟩:∃x,d[k]=x:=⟨_,rfl⟩;rw[z] at S m;obtain⟨rfl,rfl⟩:=Prod.mk.inj S;obtain⟨bb,T,ho,q0,q1,q2,q3, -⟩:=s.kept f k x.a ea;obtain⟨b4,a8,U,B,D,E,F, -⟩:=s.kept f _ x.b eb;subst ho;cases U;have M:=(cell_of_heap (p:=⟨Bs,0,none⟩) (f Bs (.inl rfl))).trans c0;obtain⟨K,N⟩:∃K,(k+1) % l.length=K:=⟨_,rfl⟩;have b5:K<l.length:=by rw[<- N];exact Nat.mod_lt _ aa
   have a9:((k:Int)+1).tmod (l.length:Int)=(K:Int):=by rw[a2F,N]
   rw[N] at B D E F;have b6:(K:Int)<(l.length:Int):=aa;have b7:IntKind.i64.wrap ((k:Int)+1)=(k:Int)+1:=IntWalk.i64_in _ aa;have b8:IntKind.i64.wrap (K:Int)=(K:Int):=IntWalk.i64_in _ aa;have b9:¬(K:Int)<0:=aa;have c1:¬(l.length:Int)=0:=aa;have c2:((l.length:Int)==0)=false:=by rw[dL];omega
   have c3:¬l.length=0:=aa;have c4:¬l=[]:=by intro h;subst h;simp at u
   have H:=aA m;have X:=aA y;clear m y z S N w ea eb;have c:=bZ wr (ai #[ag x.a.xn,ag x.a.xd,ag x.a.yn,ag x.a.yd] 233);have FN:=Four.new wr (ag x.a.xn) (ag x.a.xd) (ag x.a.yn) (ag x.a.yd) 233;have B:=(c.cell (aR B)).trans B;have D:=(c.cell (aR D)).trans D;have E:=(c.cell (aR E)).trans E;have F:=(c.cell (aR F)).trans F;have cV:=(c.cell (aR M)).trans M
   gi_wp2
   obtain⟨V,hV⟩:∃V,wr.alloc (ai #[ag x.a.xn,ag x.a.xd,ag x.a.yn,ag x.a.yd] 233)=V:=⟨_,rfl⟩;rw[hV] at c FN B D E F cV⊢;have Y:Hid (xu (edT Bs (some ⟨bb,T,none⟩) l) wr V):=xu.of_below c (λj hj=>by
    rcases hj with rfl|⟨-,b0,h2⟩
    .exact aR M
    .cases h2;exact aR q0)
   clear hV q0 q1 q2 q3 M;obtain⟨f0,f1,f2,f3⟩:=FN;obtain⟨fn,b1,O,b2,hy,hR⟩:=hY (d.take k) x V.drew (R _ _ _ t c.drew) X.out
   gi_region_with ((refine⟨(λh=>by cases h),hR.mono ?_⟩;rintro e W3 h3;obtain⟨bo,rfl,Z⟩:=Uo h3))
   all_goals(rcases Z with⟨rfl,a4,a5⟩|⟨rfl,I⟩;((gi_wp2;go_roundw);(case rel=>exact⟨k+1,aa,aG,by rw[H.out];exact a4,(f.trans Y.out).trans a5⟩);(case measure=>simp[intOf];omega));(gi_wp2;refine bodyPost_ret (results_none rfl _ _ _) rfl ?_;exact⟨⟨_,rfl⟩,.inr ⟨_,by rw[<- H.out];exact List.take_prefix _ _,I⟩⟩))
  .obtain rfl:k=l.length:=aa
   gi_wp2
   go_end0
   exact⟨⟨_,rfl⟩,.inl ⟨_,by rw[jg aa],t⟩⟩
end
section
open Go.RowKit Go.Shelf
set_option maxRecDepth 100000
attribute [local go_sem] Oper.semAt_some
def sq (p:Qt)(a b:Qt):Int:=eF p a b*eF p a b
def a6X (l:List Qt)(p:Qt)(e:Ending):Prop:=
 (oU l/\jQ p=0/\e=ax (aF #[ag (xY (eF p) l),ag (xY (sq p) l),aU]))\/
 (¬(oU l/\jQ p=0)/\∃v,a5U v/\e=ax (aF #[ag 0,ag 0,v]))
theorem YY (o:Option Addr)(k a:Nat)(w:ah):aJ 313 #[.agg #[aj o k a]] w λe w'=>e=ax (.func (.func 346) #[] #[aI w.heap.size])/\w'=w.alloc (ai #[aj o k a] 113):=by
 go_enter func313,ntmps313;go_wp2;go_ret;exact⟨rfl,rfl⟩
theorem kN (W:ah)(v:au)(t:TypeId):(W.alloc (ai #[v] t)).cell? ⟨W.heap.size,0,none⟩=some v/\(W.alloc (ai #[v] t)).frozen? ⟨W.heap.size,0,none⟩=false:=⟨aG,aG⟩
theorem Uq (w:ah)(v a b c d x y:au)(t f e h:TypeId):
  ∀U,(((w.alloc (ai #[v] t)).alloc (ai #[a,b,c,d] f)).alloc (ai #[x] e)).alloc (ai #[y] h)=U->
  U.cell? ⟨w.heap.size,0,none⟩=some v/\Four U (w.heap.size+1) a b c d/\(U.cell? ⟨w.heap.size+1+1,0,none⟩=some x/\U.frozen? ⟨w.heap.size+1+1,0,none⟩=false)/\(U.cell? ⟨w.heap.size+1+1+1,0,none⟩=some y/\U.frozen? ⟨w.heap.size+1+1+1,0,none⟩=false)/\aD w U/\w.heap.size+1+1+1<U.heap.size:=by
 rintro U rfl;have i:=Below.alloc (aQ ((((w.alloc (ai #[v] t)).alloc (ai #[a,b,c,d] f)).alloc (ai #[x] e)).heap.size) _) ay (ai #[y] h);have n:=Below.alloc (aQ (((w.alloc (ai #[v] t)).alloc (ai #[a,b,c,d] f)).heap.size) _) ay (ai #[x] e);have o:=Below.alloc (aQ ((w.alloc (ai #[v] t)).heap.size) _) ay (ai #[a,b,c,d] f);have q:=bZ w (ai #[v] t);have k:=aN n i;have l:=aN o k;have r:w.heap.size<(w.alloc (ai #[v] t)).heap.size:=aG;have s:(w.alloc (ai #[v] t)).heap.size=w.heap.size+1:=aG;have u:((w.alloc (ai #[v] t)).alloc (ai #[a,b,c,d] f)).heap.size=w.heap.size+1+1:=aG;have z:(((w.alloc (ai #[v] t)).alloc (ai #[a,b,c,d] f)).alloc (ai #[x] e)).heap.size=w.heap.size+1+1+1:=aG;have F:=Four.new (w.alloc (ai #[v] t)) a b c d f;rw[s] at F;have j:=kN ((w.alloc (ai #[v] t)).alloc (ai #[a,b,c,d] f)) x e;rw[u] at j;have m:=kN (((w.alloc (ai #[v] t)).alloc (ai #[a,b,c,d] f)).alloc (ai #[x] e)) y h;rw[z] at m;have g:w.heap.size+1+1<(((w.alloc (ai #[v] t)).alloc (ai #[a,b,c,d] f)).alloc (ai #[x] e)).heap.size:=aa;exact⟨(l.cell (p:=⟨w.heap.size,0,none⟩) r).trans (kN w v t).1,F.below k ay,⟨(i.cell (p:=⟨w.heap.size+1+1,0,none⟩) g).trans j.1,(i.frozen (p:=⟨w.heap.size+1+1,0,none⟩) g).trans j.2⟩,m,aN q l,aG⟩
theorem EG {V:ah}{X Y:Nat}(hne:X≠Y){a b u v:au}(c:V.cell? (aH X 0)=some u)(d:V.cell? (aH Y 0)=some v):
  ((V.setCell ⟨X,0,none⟩ a).setCell ⟨Y,0,none⟩ b).cell? (aH X 0)=some a/\((V.setCell ⟨X,0,none⟩ a).setCell ⟨Y,0,none⟩ b).cell? (aH Y 0)=some b:=by
 have f:(V.setCell ⟨X,0,none⟩ a).cell? (aH X 0)=some a:=iA _ _ _ (by rw[c];rfl);have g:(V.setCell ⟨X,0,none⟩ a).cell? (aH Y 0)=some v:=by rw[bN _ _ _ _ (by simp;exact hne)];exact d
 refine⟨?_,iA _ _ _ (by rw[g];rfl)⟩;rw[bN _ _ _ _ (by simp;exact λe=>hne e.symm)];exact f
abbrev GK (a:List Eg):List (Qt×Qt):=a.map (λe=>(e.a,e.b))
theorem a2G:∀L:List (Qt×Qt),(∀e∈L,PB e.1/\PB e.2)->∃b:List Eg,GK b=L
 |[],_=>⟨[],rfl⟩
 |e::L,h=>by
  obtain⟨b,a⟩:=a2G L (λx a=>h x (EO _ a));have c:=h e (List.mem_cons_self ..);exact⟨⟨e.1,e.2,c.1,c.2⟩::b,by simp only[GK,nI] at a⊢;rw[a]⟩
theorem KG {l:List Qt}{e:Qt×Qt}(h:e∈oh l):e.1∈l/\e.2∈l:=by
 cases l with
 |nil=>cases h
 |cons a l=>
  unfold oh at h;obtain⟨c,d⟩:=List.of_mem_zip (a:=e.1) (b:=e.2) h;grind
structure Qz (p:Qt)(B1 B2 B3 N:Nat)(L:List (Qt×Qt))(W:ah):Prop where
 f:Four W B1 (ag p.xn) (ag p.xd) (ag p.yn) (ag p.yd)
 c2:W.cell? (aH B2 0)=some (ag (iq (eF p) L))
 f2:W.frozen? ⟨B2,0,none⟩=false
 c3:W.cell? (aH B3 0)=some (ag (iq (sq p) L))
 f3:W.frozen? ⟨B3,0,none⟩=false
 sz:N<=W.heap.size
theorem Qz.kept {p:Qt}{d e f N:Nat}{L:List (Qt×Qt)}{A B:ah}{c:Option Nat}(h:Qz p d e f N L A)(a:A.grownBy B c)(b:∀r,c=some r->∃o:Obj,A.heap[r]? =some o/\o.isCells=false):Qz p d e f N L B:=
 ⟨⟨cell_kept h.f.c0 a b,cell_kept h.f.c1 a b,cell_kept h.f.c2 a b,cell_kept h.f.c3 a b⟩,cell_kept h.c2 a b,(frozen_kept h.c2 a b).trans h.f2,cell_kept h.c3 a b,(frozen_kept h.c3 a b).trans h.f3,bu h.sz a.size⟩
theorem a6Y (p:Qt)(a b c N:Nat):Go.Own (λ(pre:List Eg) W=>Qz p a b c N (GK pre) W):=λ_ _ _ _ d e f=>Qz.kept d e f
theorem yS {W a:ah}(h:aD W a):KeepsOthers W a:=⟨h.size,λk _ b _=>(h.block k (dZ.1 b).1).trans b⟩
theorem xu.set {T:Nat->Prop}{A:ah}{B:Nat}{u:au}(a:∀k,T k->k≠B):xu T A (A.setCell ⟨B,0,none⟩ u):=λj b=>bY _ _ _ j (λe=>a j b e)
theorem Qz.set {p:Qt}{f c e N:Nat}{L g:List (Qt×Qt)}{W:ah}(h:Qz p f c e N L W)(i:c≠f)(j:e≠f)(k:c≠e){a b:Int}(l:iq (eF p) g=a)(m:iq (sq p) g=b):
  Qz p f c e N g ((W.setCell ⟨c,0,none⟩ (ag a)).setCell ⟨e,0,none⟩ (ag b)):=by
 obtain⟨n,q⟩:=EG (V:=W) (X:=c) (Y:=e) (a:=ag a) (b:=ag b) k h.c2 h.c3;have d:∀o v,W.cell? (aH f o)=some v->((W.setCell ⟨c,0,none⟩ (ag a)).setCell ⟨e,0,none⟩ (ag b)).cell? (aH f o)=some v:=λo v r=>by
  rw[bN _ _ _ _ j,bN _ _ _ _ i];exact r
 refine⟨⟨d _ _ h.f.c0,d _ _ h.f.c1,d _ _ h.f.c2,d _ _ h.f.c3⟩,by rw[l];exact n,?_,by rw[m];exact q,?_,?_⟩
 .rw[jK,jK];exact h.f2
 .rw[jK,jK];exact h.f3
 .have s:=(grownBy_setCell' W c (ag a)).size;have t:=(grownBy_setCell' (W.setCell ⟨c,0,none⟩ (ag a)) e (ag b)).size;have:=h.sz;omega
theorem Qz.below {p:Qt}{a b c N:Nat}{L:List (Qt×Qt)}{A B:ah}(h:Qz p a b c N L A)(d:aD A B):Qz p a b c N L B:=h.kept (grown_of d) (λr e=>by cases e)
theorem Four.kept' {b:Nat}{x y z u:au}{A B:ah}{a:Option Nat}(h:Four A b x y z u)(c:A.grownBy B a)(d:∀r,a=some r->∃o:Obj,A.heap[r]? =some o/\o.isCells=false):Four B b x y z u:=
 ⟨cell_kept h.c0 c d,cell_kept h.c1 c d,cell_kept h.c2 c d,cell_kept h.c3 c d⟩
theorem YZ (aB aS aZ:Addr)(l:List Qt)(o:Option Addr)(d:Nat)(p:Qt)(w:ah)(h:iw w o l)(hp:PI p)(hE:E3 aB aS aZ w):
  CallsIn Fence.wide 9 prog 252 #[.agg #[aj o l.length d],qR p] w λe W=>a6X l p e/\aD w W:=by
 refine callsIn_of_wp_marks func252 rfl trivial ?_ rfl;simp only[ntmps252,ji,eP,iO,Nat.reduceAdd,Nat.reduceSub,jM,jL,jO,jN,gF,fV]
 gi_wp2
 obtain⟨U,hU⟩:∃U,(((w.alloc (ai #[aj o l.length d] 113)).alloc (ai #[ag p.xn,ag p.xd,ag p.yn,ag p.yd] 233)).alloc (ai #[ag 0] 3)).alloc (ai #[ag 0] 3)=U:=⟨_,rfl⟩;obtain⟨cS,F1,⟨g,f2⟩,⟨i,f3⟩,uh,f1⟩:=Uq w _ _ _ _ _ _ _ _ _ _ _ U hU;rw[hU];clear hU;have CK:=zT aB aS aZ l o d U (h.below uh ay) (hE.below uh ay);refine⟨trivial,(callsIn_wide.2 CK).mono ?_⟩;rintro e w1 ⟨hc,I⟩;have yU:=aN uh I;have O:=(I.cell (aR cS)).trans cS;have c8:=F1.below I ay;have m:=(I.cell (aR g)).trans g;have n:=(I.cell (aR i)).trans i;have P:=(I.frozen (aR g)).trans f2;have Q:=(I.frozen (aR i)).trans f3;clear CK cS g i f2 f3;obtain⟨g0,g1,g2,g3⟩:=c8;rcases hc.plain with⟨R,rfl⟩|⟨S,v,hv,rfl⟩
 .clear hc;have CP:=FM aB aS aZ p w1 hp (hE.below yU ay);by_cases t:jQ p=0
  .rw[t] at CP;have a4:Hid (oU l/\jQ p=0):=⟨R,t⟩;clear R t
   gi_wp2
   refine⟨trivial,(callsIn_wide.2 CP).mono ?_⟩;rintro e f ⟨rfl,u⟩;simp only[vG];have c9:=(u.cell (aR O)).trans O
   gi_wp2
   refine⟨trivial,(callsIn_wide.2 (YY o l.length d f)).mono ?_⟩;rintro e J ⟨rfl,a5⟩;have NG:=aN yU u;have b3:=bZ f (ai #[aj o l.length d] 113);have hX:J.heap[f.heap.size]? =some (ai #[aj o l.length d] 113):=by rw[a5];exact eO f _
   rw[<- a5] at b3;clear a5;have ym:=aN NG b3;have a8:f.heap.size<J.heap.size:=(dZ.1 hX).1;have f4:=I.size;have f5:=u.size;obtain⟨y,a9⟩:=a4.out;obtain⟨xs,F⟩:=a2G (oh l) (λe he=>⟨PB.of (y.2 _ (KG he).1),PB.of (y.2 _ (KG he).2)⟩);have f6:xs.length<=30:=by have h1:=Ka l;rw[<- F,dF] at h1;have:=y.1;omega
   have f7:=y.1;have d0:=PB.of a9;have d3:=h.below ym ay;have Kv:∀k,edT f.heap.size o l k->k<J.heap.size/\k≠w.heap.size+1+1/\k≠w.heap.size+1+1+1:=λk H=>by
    rcases H with rfl|⟨d4,f8,ho⟩
    .exact⟨a8,aa,aa⟩
    .cases l with
     |nil=>exact absurd rfl d4
     |cons a l=>
      obtain⟨b,e9,e1,h2⟩:=h 0 a rfl;rw[ho] at e1;cases e1;have H:=aR h2.c0;simp at H;exact⟨by have:=ym.size;omega,aa,aa⟩
   have q:Qz p (w.heap.size+1) (w.heap.size+1+1) (w.heap.size+1+1+1) 0 [] J:=Qz.below (Qz.below ⟨⟨g0,g1,g2,g3⟩,m,P,n,Q,bf _⟩ u) b3;have I0:Qz p (w.heap.size+1) (w.heap.size+1+1) (w.heap.size+1+1+1) J.heap.size [] J:=⟨q.f,q.c2,q.f2,q.c3,q.f3,Nat.le_refl _⟩;clear q;clear a9 y g0 g1 g2 g3 m P n Q CP O c9;have d6:=aA F;have b0:=YX l xs F aa o d (9-1) f.heap.size J hX d3;clear F
   gi_wp2
   refine wpIn_rangeFunc_ownH rfl aa (gf:=346) (lb:=#[aI f.heap.size]) rfl trivial (enters_of func346 az rfl)
    b0 xu.trans (xu.put (λk H=>(Kv k H).1)) (aQ _ _) (λ_=>rfl)
    (λpre W=>Qz p (w.heap.size+1) (w.heap.size+1+1) (w.heap.size+1+1+1) J.heap.size (GK pre) W/\aD w W)
    (λ_ _ _=>False)
    (OwnFrom.and ((a6Y p _ _ _ _).from _) (ownFrom_below ay ym.size))
    (λc=>λs A B d7 hs hg hr=>hs)
    ⟨I0,ym⟩
    (λx a' W=>∃Bx By,Four W Bx (ag x.a.xn) (ag x.a.xd) (ag x.a.yn) (ag x.a.yd)/\Four W By (ag x.b.xn) (ag x.b.xd) (ag x.b.yn) (ag x.b.yd)/\a'={tmps:=#[.agg #[aj o l.length d],qR p,aI w.heap.size,.pointer (some ⟨w.heap.size+1,0,none⟩),.pointer (some ⟨w.heap.size+1+1,0,none⟩),.pointer (some ⟨w.heap.size+1+1+1,0,none⟩),aU,aU,aU,aI Bx,aI By,undef,.agg #[aj o l.length d],aU,aU,.bool false,undef,qR p,aU,aU,.bool false,undef,undef,undef,undef,.agg #[aj o l.length d],.func (.func 346) #[] #[aI f.heap.size],qR x.a,qR x.b,undef,undef,undef,undef,undef,undef,undef,undef,undef,undef,undef,undef,undef,undef],defers:=[]})
    (λx a' s A B d7 hs hg hr=>by obtain⟨Bx,By,h1,h2,h3⟩:=hs;exact⟨Bx,By,h1.kept' hg (λr e=>(hr r e).2),h2.kept' hg (λr e=>(hr r e).2),h3⟩)
    ?assign ?body ?done ?stop
   case assign=>
    rintro L pre x W K ⟨hI,hB⟩ hK
    gi_wp2
    have k1:=bZ W (ai #[ag x.a.xn,ag x.a.xd,ag x.a.yn,ag x.a.yd] 233);have k2:=bZ (W.alloc (ai #[ag x.a.xn,ag x.a.xd,ag x.a.yn,ag x.a.yd] 233)) (ai #[ag x.b.xn,ag x.b.xd,ag x.b.yn,ag x.b.yd] 233);have FA:=(Four.new W (ag x.a.xn) (ag x.a.xd) (ag x.a.yn) (ag x.a.yd) 233).below k2 ay;have FB:=Four.new (W.alloc (ai #[ag x.a.xn,ag x.a.xd,ag x.a.yn,ag x.a.yd] 233)) (ag x.b.xn) (ag x.b.xd) (ag x.b.yn) (ag x.b.yd) 233;rw[show(W.alloc (ai #[ag x.a.xn,ag x.a.xd,ag x.a.yn,ag x.a.yd] 233)).heap.size=W.heap.size+1 from by simp] at FB;have k:=aN k1 k2;exact hK _ _ (((KeepsOthers.alloc _ _).trans (KeepsOthers.alloc _ _)).from _) (xu.of_below k (λj hj=>by have h1:=(Kv j hj).1;have h2:=hI.sz;omega)) ⟨hI.below k,aN hB k⟩ ⟨W.heap.size,W.heap.size+1,FA,FB,rfl⟩
   case body=>
    rintro L pre x a' W hl hr ⟨hI,hB⟩ ⟨Bx,By,⟨x0,x1,x2,x3⟩,⟨y0,y1,y2,y3⟩,rfl⟩ f9;have TO:=Yc x.a x.b p W x.ha x.hb d0;have ho:_/\iq (eF p) (GK pre)<=iq (sq p) (GK pre)/\ - iq (eF p) (GK pre)<=iq (sq p) (GK pre)/\0<=iq (sq p) (GK pre)/\iq (sq p) (GK pre)<=((GK pre).length:Int)/\_/\_:=VU (eF p) (λa b=>FL p a b) (GK pre);obtain⟨-,o1,o2,o3,o4, -, -⟩:=ho;have g4:(GK pre).length<=30:=by rw[dF];omega
    have b4:iq (eF p) (GK (pre++[x]))=iq (eF p) (GK pre)+eF p x.a x.b:=by rw[GK,iG,Pb];simp[iq]
    have b5:iq (sq p) (GK (pre++[x]))=iq (sq p) (GK pre)+eF p x.a x.b*eF p x.a x.b:=by rw[GK,iG,Pb];simp[iq,sq]
    have b6:=hI;obtain⟨⟨z0,z1,z2,z3⟩,g,f2,i,f3,d8⟩:=hI;have b7: -1<=eF p x.a x.b/\eF p x.a x.b<=1/\0<=eF p x.a x.b*eF p x.a x.b/\eF p x.a x.b*eF p x.a x.b<=1:=by rcases FL p x.a x.b with h|h|h<;>rw[h]<;>decide
    have a6:Hid _:=b4;have a7:Hid _:=b5;generalize hgT:eF p x.a x.b=T at TO b7 a6 a7;generalize hg2:iq (eF p) (GK pre)=z at g o1 o2 o3 o4 a6;generalize hg3:iq (sq p) (GK pre)=C at i o1 o2 o3 o4 a7;obtain⟨t1,t2,t3,t4⟩:=b7;have HG:Hid (eF p x.a x.b=T/\iq (eF p) (GK pre)=z/\iq (sq p) (GK pre)=C):=⟨hgT,hg2,hg3⟩;have HI:=aA b6;clear b4 b5 hgT hg2 hg3 b6
    gi_wp2_with (refine⟨trivial,?_⟩;gi_at_call 314;refine(CallsIn.inRound L (callsIn_wide.2 TO)).mono ?_;rintro e w' ⟨rfl,M⟩;have b8:=(M.cell (aR g)).trans g;have g5:=(M.frozen (aR g)).trans f2;have b9:=(M.cell (aR i)).trans i;have g6:=(M.frozen (aR i)).trans f3)
    obtain⟨e1,e2,e3⟩:=HG.out;refine⟨((yS M).trans ((gH _ _ _).trans (gH _ _ _))).from _,((xu.of_below M (λj hj=>by have h1:=(Kv j hj).1;omega)).trans (xu.set (λk H=>(Kv k H).2.1))).trans (xu.set (λk H=>(Kv k H).2.2)),Qz.set (HI.out.below M) aa aa aa a6.out a7.out,?_⟩;exact((aN hB M).setCell aX _).setCell aX _
   case done=>
    rintro D ys W hD rfl ⟨hI,hB⟩ hK;obtain⟨-,g,f2,i,f3,d8⟩:=hI;rw[d6.out] at g i;have b8:W.drew.cell? ⟨w.heap.size+1+1,0,none⟩=some (ag (iq (eF p) (oh l))):=g;have b9:W.drew.cell? ⟨w.heap.size+1+1+1,0,none⟩=some (ag (iq (sq p) (oh l))):=i;have c0:xY (eF p) l=iq (eF p) (oh l):=rfl;have c1:xY (sq p) l=iq (sq p) (oh l):=rfl;have HW:Hid (xY (eF p) l=iq (eF p) (oh l)/\xY (sq p) l=iq (sq p) (oh l)):=⟨c0,c1⟩;clear c0 c1;generalize iq (eF p) (oh l)=z at g b8 HW;generalize iq (sq p) (oh l)=C at i b9 HW
    gi_wp2
    have d9:=((gH W ⟨w.heap.size+1+1,0,none⟩ (ag z)).trans (gH _ ⟨w.heap.size+1+1+1,0,none⟩ (ag C))).same D _ hK rfl;have E:((W.setCell ⟨w.heap.size+1+1,0,none⟩ (ag z)).setCell ⟨w.heap.size+1+1+1,0,none⟩ (ag C)).drew.heap[D]? =some (.deferred (some [])):=d9;obtain⟨d1,d2⟩:=EG (V:=W) (X:=w.heap.size+1+1) (Y:=w.heap.size+1+1+1) (a:=ag z) (b:=ag C) aa g i;have c4:((W.setCell ⟨w.heap.size+1+1,0,none⟩ (ag z)).setCell ⟨w.heap.size+1+1+1,0,none⟩ (ag C)).drew.cell? ⟨w.heap.size+1+1,0,none⟩=some (ag z):=d1;have c5:((W.setCell ⟨w.heap.size+1+1,0,none⟩ (ag z)).setCell ⟨w.heap.size+1+1+1,0,none⟩ (ag C)).drew.cell? ⟨w.heap.size+1+1+1,0,none⟩=some (ag C):=d2;have bz:=((hB.setCell (p:=⟨w.heap.size+1+1,0,none⟩) aX (ag z)).setCell (p:=⟨w.heap.size+1+1+1,0,none⟩) aX (ag C)).drew
    gi_region
    all_goals
     gi_wp2
     clear d1 d2;generalize ((W.setCell ⟨w.heap.size+1+1,0,none⟩ (ag z)).setCell ⟨w.heap.size+1+1+1,0,none⟩ (ag C)).drew=Z at E c4 c5 bz⊢;refine⟨aG,.inl ⟨_,_,rfl,run_takeDeferred E,?_⟩⟩;have e0:=cell_kept c4 (grownBy_putObj' _ D (.deferred none)) (λr e=>by cases e;exact⟨_,E,rfl⟩);have e4:=cell_kept c5 (grownBy_putObj' _ D (.deferred none)) (λr e=>by cases e;exact⟨_,E,rfl⟩);refine⟨aF #[ag z,ag C,aU],?_,.inl ⟨a4.out.1,a4.out.2,by rw[HW.out.1,HW.out.2]⟩,bz.trans (belowK_b (w:=w) ay Z D _ _ (by have:=ym.size;omega) E rfl rfl)⟩;simp[results,results252,go_sem,e0,e4]
   case stop=>exact λD c pre W hD f0 hf=>hf.elim
  .have S:¬(oU l/\jQ p=0):=λh=>t h.2;obtain⟨ad,Sn⟩:=jk aB aS aZ (show jQ p=2\/jQ p=3 by have:=Tv p;omega);rw[Sn] at CP;clear Sn t R
   gi_wp2
   refine⟨trivial,(callsIn_wide.2 CP).mono ?_⟩;rintro e f ⟨rfl,u⟩;have c6:=(u.cell (aR m)).trans m;have c7:=(u.cell (aR n)).trans n;have e5:=(u.frozen (aR m)).trans P;have e6:=(u.frozen (aR n)).trans Q;have e7:=λo=>cell_kept c6 (qY f o none) (λr e=>by cases e);have e8:=λo=>cell_kept c7 (qY f o none) (λr e=>by cases e);have g7:=λo=>(frozen_kept c6 (qY f o none) (λr e=>by cases e)).trans e5;have g8:=λo=>(frozen_kept c7 (qY f o none) (λr e=>by cases e)).trans e6
   gi_wp2
   obtain⟨d1,d2⟩:=EG (V:=f.alloc (ai #[ag 30,aP 453 (.pointer (some ad))] 71)) (X:=w.heap.size+1+1) (Y:=w.heap.size+1+1+1) (a:=ag 0) (b:=ag 0) aa (e7 _) (e8 _);exact⟨aF #[ag 0,ag 0,aP 67 (aI f.heap.size)],by simp[results,results252,go_sem,d1,d2],.inr ⟨S,_,.inr ⟨_,rfl⟩,rfl⟩,(((aN yU u).alloc (aN yU u).size _).setCell aX _).setCell aX _⟩
 .clear hc;have N:¬(oU l/\jQ p=0):=λh=>S h.1;obtain⟨d1,d2⟩:=EG (V:=w1) (X:=w.heap.size+1+1) (Y:=w.heap.size+1+1+1) (a:=ag 0) (b:=ag 0) aa m n;have bz:=(yU.setCell (p:=⟨w.heap.size+1+1,0,none⟩) aX (ag 0)).setCell (p:=⟨w.heap.size+1+1+1,0,none⟩) aX (ag 0);rcases hv with⟨a,rfl⟩|⟨a,rfl⟩
  .gi_wp2
   exact⟨aF #[ag 0,ag 0,aP 453 (.pointer (some a))],by simp[results,results252,go_sem,d1,d2],.inr ⟨N,_,.inl ⟨a,rfl⟩,rfl⟩,bz⟩
  .gi_wp2
   exact⟨aF #[ag 0,ag 0,aP 67 (.pointer (some a))],by simp[results,results252,go_sem,d1,d2],.inr ⟨N,_,.inr ⟨a,rfl⟩,rfl⟩,bz⟩
end
section
open Go.RowKit
set_option maxRecDepth 20000
def MM (l:List Qt)(p:Qt)(a b:Int)(v:au):Prop:=
 (oU l/\jQ p=0/\a=xY (eF p) l/\b=xY (sq p) l/\v=aU)\/(¬(oU l/\jQ p=0)/\a=0/\b=0/\a5U v)
theorem GL (aB aS aZ:Addr)(l:List Qt)(o:Option Addr)(b:Nat)(p:Qt)(w:ah)(h:iw w o l)(hp:PI p)(hE:E3 aB aS aZ w):
    aJ 252 #[.agg #[aj o l.length b],qR p] w λe W=>∃f g v,MM l p f g v/\e=ax (aF #[ag f,ag g,v])/\aD w W:=
  (callsIn_wide.1 (YZ aB aS aZ l o b p w h hp hE)).mono λe W h=>by
    obtain⟨a|a,i⟩:=h
    . obtain⟨a,c,d⟩:=a
      exact⟨_,_,_,.inl ⟨a,c,rfl,rfl,rfl⟩,d,i⟩
    . obtain⟨a,v,c,d⟩:=a
      exact⟨_,_,_,.inr ⟨a,rfl,rfl,c⟩,d,i⟩
theorem BJ (w:ah)(v a b c d:au)(t e:TypeId):
  ∀U,(w.alloc (ai #[v] t)).alloc (ai #[a,b,c,d] e)=U->U.cell? ⟨w.heap.size,0,none⟩=some v/\Four U (w.heap.size+1) a b c d/\aD w U:=by
 rintro U rfl;have f:=bZ (w.alloc (ai #[v] t)) (ai #[a,b,c,d] e);have F:=Four.new (w.alloc (ai #[v] t)) a b c d e;rw[show(w.alloc (ai #[v] t)).heap.size=w.heap.size+1 from by simp] at F;exact⟨(f.cell (p:=⟨w.heap.size,0,none⟩) aG).trans (kN w v t).1,F,aN (bZ w _) f⟩
abbrev afK:au:=ak ⟨#[119,105,110,100]⟩
abbrev afL:au:=ak ⟨#[101,118,101,110]⟩
theorem Ur (aB aS aZ:Addr)(l:List Qt)(o:Option Addr)(a:Nat)(p:Qt)(w:ah)(h:iw w o l)(hp:PI p)(hE:E3 aB aS aZ w):
  aJ 183 #[.agg #[aj o l.length a],qR p,afK] w λe W=>∃c g v,MM l p c g v/\e=ax (aF #[.bool (c !=0),v])/\aD w W:=by
 have d:=λV (b:aD w V)=>GL aB aS aZ l o a p V (h.below b ay) hp (hE.below b ay);go_enter func183,ntmps183;go_upto_region 1 with fail;obtain⟨U,f⟩:∃U,(w.alloc (ai #[aj o l.length a] 113)).alloc (ai #[ag p.xn,ag p.xd,ag p.yn,ag p.yd] 233)=U:=⟨_,rfl⟩;obtain⟨k,⟨m,n,q,r⟩,i⟩:=BJ w _ _ _ _ _ _ _ U f;rw[f];clear f;have d:=d U i;go_wp2_with(go_at_call 252;refine d.mono ?_;rintro e s ⟨c,g,v,b,rfl,j⟩);refine bodyPost_ret (results_tmp2 rfl _ _ _) rfl ?_;exact⟨_,_,_,b,rfl,aN i j⟩
theorem Us (aB aS aZ:Addr)(l:List Qt)(o:Option Addr)(a:Nat)(p:Qt)(w:ah)(h:iw w o l)(hp:PI p)(hE:E3 aB aS aZ w):
  aJ 183 #[.agg #[aj o l.length a],qR p,afL] w λe W=>∃g c v,MM l p g c v/\e=ax (aF #[.bool (c.tmod 2==1),v])/\aD w W:=by
 have d:=λV (b:aD w V)=>GL aB aS aZ l o a p V (h.below b ay) hp (hE.below b ay);go_enter func183,ntmps183;go_upto_region 1 with fail;obtain⟨U,f⟩:∃U,(w.alloc (ai #[aj o l.length a] 113)).alloc (ai #[ag p.xn,ag p.xd,ag p.yn,ag p.yd] 233)=U:=⟨_,rfl⟩;obtain⟨k,⟨m,n,q,r⟩,i⟩:=BJ w _ _ _ _ _ _ _ U f;rw[f];clear f;have d:=d U i;go_wp2_with(go_at_call 252;refine d.mono ?_;rintro e s ⟨g,c,v,b,rfl,j⟩);refine bodyPost_ret (results_tmp2 rfl _ _ _) rfl ?_;exact⟨_,_,_,b,rfl,aN i j⟩
end
section
open Go.RowKit
theorem a2I {w:ah}{b:Nat}{a0 a1 a2 a3:Qt}{t:TypeId}{f:Nat×Nat}(h:w.heap[b]? =some (ai #[ag a0.xn,ag a0.xd,ag a0.yn,ag a0.yd,ag a1.xn,ag a1.xd,ag a1.yn,ag a1.yd,ag a2.xn,ag a2.xd,ag a2.yn,ag a2.yd,ag a3.xn,ag a3.xd,ag a3.yn,ag a3.yd] t f))
  (e:PI a0) (g:PI a1) (j:PI a2) (l:PI a3):iw w (some ⟨b,0,none⟩) [a0,a1,a2,a3]:=by
 have c:∀k v,#[Value.int .i64 a0.xn,ag a0.xd,ag a0.yn,ag a0.yd,ag a1.xn,ag a1.xd,ag a1.yn,ag a1.yd,ag a2.xn,ag a2.xd,ag a2.yn,ag a2.yd,ag a3.xn,ag a3.xd,ag a3.yn,ag a3.yd][k]? =some v->w.cell? (aH b k)=some v:=λk v m=>by
  simp only[World.cell?,h];exact m
 intro i a d
 match i,d with
 |0,d=>cases d;exact⟨b,0,rfl,c 0 _ rfl,c 1 _ rfl,c 2 _ rfl,c 3 _ rfl,e⟩
 |1,d=>cases d;exact⟨b,0,rfl,c 4 _ rfl,c 5 _ rfl,c 6 _ rfl,c 7 _ rfl,g⟩
 |2,d=>cases d;exact⟨b,0,rfl,c 8 _ rfl,c 9 _ rfl,c 10 _ rfl,c 11 _ rfl,j⟩
 |3,d=>cases d;exact⟨b,0,rfl,c 12 _ rfl,c 13 _ rfl,c 14 _ rfl,c 15 _ rfl,l⟩
 |(k+4),d=>simp at d
theorem bH {w:ah}{b:Nat}{cs:Array au}{t:TypeId}{f:Nat×Nat}(h:w.heap[b]? =some (ai cs t f))(k:Nat)(v:au)(a:cs[k]? =some v):w.cell? (aH b k)=some v:=by
 simp only[World.cell?,h];exact a
theorem gm {w:ah}{b:Nat}{cs:Array au}{t:TypeId}(h:w.heap[b]? =some (ai cs t (0,0)))(k:Nat):w.frozen? ⟨b,k,none⟩=false:=by
 simp[World.frozen?,h]
theorem jS {X:ah}{k:Nat}{v:Obj}(o:Obj)(h:X.heap[k]? =some v):(X.alloc o).heap[k]? =some v:=((bZ X o).block k (dZ.1 h).1).trans h
theorem uy {X:ah}{k:Nat}(o:Obj)(h:X.heap.size=k):(X.alloc o).heap[k]? =some o:=by rw[<- h];exact eO X o
theorem afM (w:ah)(a b c d e f:Obj):∀U,(((((w.alloc a).alloc b).alloc c).alloc d).alloc e).alloc f=U->
  U.heap[w.heap.size]? =some a/\U.heap[w.heap.size+1]? =some b/\U.heap[w.heap.size+1+1]? =some c/\U.heap[w.heap.size+1+1+1]? =some d/\U.heap[w.heap.size+1+1+1+1]? =some e/\U.heap[w.heap.size+1+1+1+1+1]? =some f/\aD w U:=by
 rintro U rfl;refine⟨?_,?_,?_,?_,?_,?_,?_⟩
 .exact jS _ (jS _ (jS _ (jS _ (jS _ (uy _ rfl)))))
 .exact jS _ (jS _ (jS _ (jS _ (uy _ aG))))
 .exact jS _ (jS _ (jS _ (uy _ aG)))
 .exact jS _ (jS _ (uy _ aG))
 .exact jS _ (uy _ aG)
 .exact uy _ aG
 .exact((((((aQ _ _).alloc ay _).alloc aG _).alloc aX _).alloc aX _).alloc aX _).alloc aX _
theorem a9r {an ad bn bd:Int}(a:fH an ad=0)(b:fH bn bd=0):(add an ad bn bd).c=0\/(add an ad bn bd).c=2:=by
 have e:add an ad bn bd=low (an*bd+bn*ad) (ad*bd):=by unfold add;rw[if_neg (by simp[a]),if_neg (by simp[b])]
 rw[e];rcases AZ (n:=an*bd+bn*ad) (d:=ad*bd) with h|h
 .grind
 .exact .inl h
end
section
open Go.RowKit Go.Shelf
set_option maxRecDepth 20000
theorem Ut (s:aM)(w:ah)(h:behind 44 s.data.toList=none):
  aJ 113 #[ak s,ak ⟨#[44]⟩] w λe w'=>e=ax (aF #[ak s,ak ⟨#[]⟩,.bool false])/\∃k,w'=w.drewN k:=by
 obtain⟨b,_⟩:=index_none 44 _ h;have a:=Tryz.stringslite_Index_one s 44;rw[b] at a;have c:=aA a;clear a b h;go_enter func113,ntmps113;go_wp2_with(go_at_call 175;refine(c.out _).mono ?_;rintro e w' ⟨rfl,rfl⟩);go_ret3;exact⟨rfl,0,rfl⟩
theorem Uu (s a b:aM)(w:ah)(d:behind 44 s.data.toList=some b.data.toList)(f:ahead 44 s.data.toList=a.data.toList)(p:s.size<=9223372036854475807):
  aJ 113 #[ak s,ak ⟨#[44]⟩] w λe w'=>e=ax (aF #[ak a,ak b,.bool true])/\∃k,w'=w.drewN k:=by
 obtain⟨i,g,l,h,j⟩:=tX 44 _ _ d;rw[lX] at l;have c:=Tryz.stringslite_Index_one s 44;rw[g] at c;have m:=aA c;have q:s.extract 0 i=a:=ext_list (by rw[Lib.extract_data];simpa[f] using h);have r:s.extract (i+1) s.size=b:=ext_list (by rw[Lib.extract_to_end];exact j);clear c g h j f d;have n:(i:Int)<(s.size:Int):=aa;have o:(i:Int)+1<=(s.size:Int):=aa;have t:(0:Int)<=(i:Int):=aa;go_enter func113,ntmps113;go_wp2_with(go_at_call 175;refine(m.out _).mono ?_;rintro e w' ⟨rfl,rfl⟩)
 go_quiet (fail)
 go_wp2;go_ret3;exact⟨rfl,_,rfl⟩
theorem Z0 (s:aM)(w:ah)(h:behind 44 s.data.toList=none):
  aJ 59 #[ak s,ak ⟨#[44]⟩] w λe w'=>e=ax (aF #[ak s,ak ⟨#[]⟩,.bool false])/\∃k,w'=w.drewN k:=by
 have a:=aA h;clear h;go_enter func59,ntmps59;go_wp2_with(go_at_call 113;refine(Ut s _ a.out).mono ?_;rintro e w' ⟨rfl,k,rfl⟩);go_ret3;exact⟨rfl,_,rfl⟩
theorem Z4 (s a b:aM)(w:ah)(c:behind 44 s.data.toList=some b.data.toList)(d:ahead 44 s.data.toList=a.data.toList)(f:s.size<=9223372036854475807):
  aJ 59 #[ak s,ak ⟨#[44]⟩] w λe w'=>e=ax (aF #[ak a,ak b,.bool true])/\∃k,w'=w.drewN k:=by
 have g:=aA c;have h:=aA d;clear d c;go_enter func59,ntmps59;go_wp2_with(go_at_call 113;refine(Uu s a b _ g.out h.out f).mono ?_;rintro e w' ⟨rfl,k,rfl⟩);go_ret3;exact⟨rfl,_,rfl⟩
theorem BK {E:Nat->Addr}{c:Nat}(h:c=1\/c=2\/c=3):Sk (E 1) (E 2) (E 3) (E 2) c=eV (E c):=by
 rcases h with rfl|rfl|rfl<;>rfl
theorem uz {E:Nat->Addr}:Sk (E 1) (E 2) (E 3) (E 2) 0=aU:=rfl
abbrev zQt:Qt:=⟨0,0,0,0⟩
def RpR (x:Option Qt)(e:Ending):Prop:=match x with
 |some q=>e=ax (aF #[qR q,.bool true])
 |none=>e=ax (aF #[qR zQt,.bool false])
section
variable {E:Nat->Addr}{W:ah}
theorem EH (a:NE E W)(s:aM)(hs:s.size<=1000000):aJ 319 #[ak s] W λe w'=>e=ax (aF #[.agg #[ag (rd s.data.toList).n,ag (rd s.data.toList).d],Sk (E 1) (E 2) (E 3) (E 2) (rd s.data.toList).c])/\aD W w':=
 wT (E 1) (E 2) (E 3) (E 2) s W a.e3 a.c1 aa
theorem wF (s l r:aM)(q:Bool)(j m n o:Int)(A L:au)(c:Option Qt)
  (R:∀V,aJ 59 #[ak s,ak ⟨#[44]⟩] V λe w'=>e=ax (aF #[ak l,ak r,.bool q])/\∃k,w'=V.drewN k)
  (S:∀V,NE E V->aJ 319 #[ak l] V λe w'=>e=ax (aF #[.agg #[ag j,ag m],A])/\aD V w')
  (T:∀V,NE E V->aJ 319 #[ak r] V λe w'=>e=ax (aF #[.agg #[ag n,ag o],L])/\aD V w')
  (sG:(q=false/\c=none)\/(q=true/\(∃a,A=eV a)/\c=none)\/(q=true/\A=aU/\(∃a,L=eV a)/\c=none)\/(q=true/\A=aU/\L=aU/\c=some ⟨j,m,n,o⟩)) (X:NE E W):
  aJ 322 #[ak s] W λe w'=>RpR c e/\aD W w':=by
 have Y:=dI W (ai #[ag 0,ag 0,ag 0,ag 0] 233);have Z:=dN W #[ag 0,ag 0,ag 0,ag 0] 233;have HN:=aA X;clear X;go_enter func322,ntmps322;go_upto_region 2 with(go_at_call 59;refine(R _).mono ?_;rintro e w1 ⟨rfl,k,hw⟩;rw[hw]);have h:=below_drewN Y k;obtain⟨U1,i⟩:∃U,((W.alloc (ai #[ag 0,ag 0,ag 0,ag 0] 233)).drewN k)=U:=⟨_,rfl⟩;have B:U1.heap[W.heap.size]? =some (ai #[ag 0,ag 0,ag 0,ag 0] 233):=by rw[<- i];exact Z
 rw[i] at h⊢;clear i Z Y;have R1:=S U1 (HN.out.below h);go_upto_region 3 with(go_at_call 319;refine R1.mono ?_;rintro e C ⟨rfl,M⟩);have N:=dI C (ai #[ag j,ag m] 163);have p:=dN C #[ag j,ag m] 163;obtain⟨U2,t⟩:∃U,C.alloc (ai #[ag j,ag m] 163)=U:=⟨_,rfl⟩;obtain⟨BX,u⟩:∃b,C.heap.size=b:=⟨_,rfl⟩;rw[t] at N p⊢;rw[u] at p⊢;have O:=aW M N;have a4:W.heap.size<BX:=by have:=M.size;have:=dz B;omega
 have K2:=(O.block _ (dz B)).trans B;have w:=aW h O;clear R1 t M N O B u;have R2:=T U2 (HN.out.below w);go_upto_region 4 with(go_at_call 319;refine R2.mono ?_;rintro e D ⟨rfl,P⟩);have Q:=dI D (ai #[ag n,ag o] 163);have F:=dN D #[ag n,ag o] 163;obtain⟨U3,x⟩:∃U,D.alloc (ai #[ag n,ag o] 163)=U:=⟨_,rfl⟩;obtain⟨BY,y⟩:∃b,D.heap.size=b:=⟨_,rfl⟩;rw[x] at Q F⊢;rw[y] at F⊢;have d:=aW P Q;have a5:BX<BY:=by have:=P.size;have:=dz p;omega
 have g:=(d.block _ (dz K2)).trans K2;have z:=(d.block _ (dz p)).trans p;have f:=aW w d;clear R2 x P Q d K2 p y;have x0:=aO z 0 _ rfl;have x1:=aO z 1 _ rfl;have y0:=aO F 0 _ rfl;have y1:=aO F 1 _ rfl;have H:=aO g 0 _ rfl;have I:=aO g 1 _ rfl;have J:=aO g 2 _ rfl;have K:=aO g 3 _ rfl;have f0:=gm g 0;have f1:=gm g 1;have f2:=gm g 2;have f3:=gm g 3;clear R S T;rcases sG with⟨rfl,rfl⟩|⟨rfl,⟨a,rfl⟩,rfl⟩|⟨rfl,rfl,⟨a,rfl⟩,rfl⟩|⟨rfl,rfl,rfl,rfl⟩
 .go_wp2_with fail
  all_goals refine bodyPost_ret (v:=aF #[qR zQt,.bool false]) (by simp[results,results322,go_sem,H,I,J,K]) rfl ⟨rfl,?_⟩
  all_goals exact(((f.setCell ay _).setCell ay _).setCell ay _).setCell ay _
 .go_wp2_with fail
  all_goals refine bodyPost_ret (v:=aF #[qR zQt,.bool false]) (by simp[results,results322,go_sem,H,I,J,K]) rfl ⟨rfl,?_⟩
  all_goals exact(((f.setCell ay _).setCell ay _).setCell ay _).setCell ay _
 .go_wp2_with fail
  all_goals refine bodyPost_ret (v:=aF #[qR zQt,.bool false]) (by simp[results,results322,go_sem,H,I,J,K]) rfl ⟨rfl,?_⟩
  all_goals exact(((f.setCell ay _).setCell ay _).setCell ay _).setCell ay _
 .go_wp2_with fail
  all_goals refine bodyPost_ret (v:=aF #[qR ⟨j,m,n,o⟩,.bool true]) (by simp[results,results322,go_sem,H,I,J,K]) rfl ⟨rfl,?_⟩
  all_goals exact(((f.setCell ay _).setCell ay _).setCell ay _).setCell ay _
theorem Uv (l:Bs):(rd l).c=0\/(rd l).c=1\/(rd l).c=2\/(rd l).c=3:=by
 rcases Gm l with h|⟨h, -⟩
 .exact .inl h
 .exact .inr h
theorem Jp (l:NE E W)(s:aM)(hs:s.size<=1000):
  aJ 322 #[ak s] W λe w'=>RpR (ptM s.data.toList) e/\aD W w':=by
 unfold ptM;cases f:behind 44 s.data.toList with
 |none=>
  exact wF s s ⟨#[]⟩ false _ _ _ _ _ _ none (λV=>Z0 s V f) (λV a=>EH a s aa) (λV a=>EH a ⟨#[]⟩ aC) (.inl ⟨rfl,rfl⟩) l
 |some b=>
  have g:behind 44 s.data.toList=some (⟨b.toArray⟩:aM).data.toList:=f;have h:ahead 44 s.data.toList=(⟨(ahead 44 s.data.toList).toArray⟩:aM).data.toList:=rfl;obtain⟨i, -,o,m,n⟩:=tX 44 _ _ f;have j:(⟨(ahead 44 s.data.toList).toArray⟩:aM).size<=1000000:=by
   show(ahead 44 s.data.toList).length<=1000000;rw[<- m,iV];have:s.data.toList.length=s.size:=rfl;omega
  have k:(⟨b.toArray⟩:aM).size<=1000000:=by
   show b.length<=1000000;rw[<- n,kU];have:s.data.toList.length=s.size:=rfl;omega
  refine wF s ⟨(ahead 44 s.data.toList).toArray⟩ ⟨b.toArray⟩ true _ _ _ _ _ _ _ (λV=>Z4 s _ _ V g h aa) (λV a=>EH a _ j) (λV a=>EH a _ k) (.inr ?_) l;dsimp only;rcases Uv (ahead 44 s.data.toList) with c|c
  .rcases Uv b with d|d
   .exact .inr (.inr ⟨rfl,by rw[c,uz],by rw[d,uz],by rw[if_pos ⟨c,d⟩]⟩)
   .exact .inr (.inl ⟨rfl,by rw[c,uz],⟨_,BK d⟩,by rw[if_neg aa]⟩)
  .exact .inl ⟨rfl,⟨_,BK c⟩,by rw[if_neg aa]⟩
end
end
theorem Z5 {x:Int}(a: -1000<=x)(b:x<=1000):fH x 1=0:=by
 rw[gI];refine⟨aC,?_,aa,aC⟩;unfold iZ;simp
