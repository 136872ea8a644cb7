import Derived.Test.YtbkjmamcnflncaaGreatDoorQt22
namespace Go.Proofs.YtbkjmamcnflncaaGreatDoor
open Go.Proofs.Tryz
set_option maxHeartbeats 8000000
section
open Go.RowKit Go.Shelf
set_option maxRecDepth 100000
attribute [local go_sem] Oper.semAt_some
structure Eg where
 a:Qt
 b:Qt
 ha:PB a
 hb:PB b
abbrev egV (x:Eg):Array ax:=#[rT x.a,rT x.b]
def xW (T:Nat->Prop)(A C:ai):Prop:=∀k,T k->C.heap[k]? =A.heap[k]?
theorem xW.refl {T:Nat->Prop}(X:ai):xW T X X:=λ_ _=>rfl
theorem xW.trans {T:Nat->Prop}{X Y Z:ai}(h:xW T X Y)(k:xW T Y Z):xW T X Z:=λj a=>(k j a).trans (h j a)
theorem xW.of_below {T:Nat->Prop}{A C:ai}{n:Nat}(h:Below n A C)(a:∀k,T k->k<n):xW T A C:=λj b=>h.block j (a j b)
theorem xW.put {T:Nat->Prop}{w:ai}(a:∀k,T k->k<w.heap.size)(W:ai)(l:Nat)(o b:Obj)(d:w.heap.size<=l)(_:W.heap[l]? =some o)(_:o.isCells=false)(_:o.isWalk=false):xW T W (W.putObj l b):=λj c=>nZ (by have:=a j c;omega)
theorem grown_of {A C:ai}(h:aD A C):A.grownBy C none:=⟨h.os,h.tape,h.output,h.size,λk a _=>h.block k a⟩
theorem cell_of_heap {A C:ai}{p:Addr}(h:C.heap[p.block]? =A.heap[p.block]?):C.cell? p=A.cell? p:=qL h
def edT (Bs:Nat)(o:Option Addr)(l:List Qt)(k:Nat):Prop:=k=Bs\/(l≠[]/\∃a,o=some ⟨k,a,none⟩)
theorem iH.kept {w w':ai}{o:Option Addr}{l:List Qt}{Bs:Nat}(h:iH w o l)(j:xW (edT Bs o l) w w'):iH w' o l:=λi a f=>by
 obtain⟨b,c,g,k,m,n,q,e⟩:=h i a f;have d:=j b (.inr ⟨by rintro rfl;simp at f,c,g⟩);exact⟨b,c,g,(cell_of_heap (p:=⟨b,_,none⟩) d).trans k,(cell_of_heap (p:=⟨b,_,none⟩) d).trans m,(cell_of_heap (p:=⟨b,_,none⟩) d).trans n,(cell_of_heap (p:=⟨b,_,none⟩) d).trans q,e⟩
theorem V6 {J c:List Eg->ai->Prop}{T:Nat->Prop}{pre:List Eg}{x:Eg}{d a:ai}{e:Ending}(h:(e=ay (.bool true)/\J (pre++[x]) a/\xW T d a)\/(e=ay (.bool false)/\c (pre++[x]) a)):
  ∃b,e=ay (.bool b)/\((b=true/\J (pre++[x]) a/\xW T d a)\/(b=false/\c (pre++[x]) a)):=by grind
theorem Rm {α:Type}(a:List α)(k:Nat)(h:k<a.length):a.take (k+1)=a.take k++[a[k]]:=by
 rw[eX,fD h];rfl
theorem a3t {k n:Nat}:((k:Int)+1).tmod (n:Int)=(((k+1) % n:Nat):Int):=by grind
theorem ZC (l:List Qt)(d:List Eg)(q:d.map (λe=>(e.a,e.b))=pg l)(hl:l.length<=1000)(o:Option Addr)(g n Bs:Nat)(w0:ai)(hB:w0.heap[Bs]? =some (ak #[aj o l.length g] 113))(hP:iH w0 o l):
  SeqStopsK Fence.wide n prog 346 #[aK Bs] egV (xW (edT Bs o l)) (λys=>ys=d) (λp=>p<+:d) d.length w0:=by
 intro L J Jx W hW hJ b3 hY h0;have P:Bs<w0.heap.size:=(eY.1 hB).1;have Q:W.heap[Bs]? =some (ak #[aj o l.length g] 113):=(hW.block Bs P).trans hB;have c0:W.cell? (aJ Bs 0)=some (aj o l.length g):=by simp[World.cell?,Q]
 have R:∀p A C,J p A->aD A C->J p C:=λp A C h hb=>hJ p A C none h (grown_of hb) (λr e=>by cases e);have a6:d.length=l.length:=by rw[<- Lc l,<- q,dP]
 have s:=hP.below hW az;refine callsIn_of_wp func346 rfl trivial ?_ rfl;simp only[ntmps346,jw,eZ,iT,Nat.reduceAdd,Nat.reduceSub,jV,jU,jX,jW,gK,gH]
 gi_wp2
 gi_loopw [8] (λi wr=>∃k:Nat,k<=l.length/\i=ag k/\J (d.take k) wr/\xW (edT Bs o l) W wr) (λi _=>l.length-(intOf i).toNat)
 case atStart=>exact⟨0,bA _,rfl,h0,xW.refl _⟩
 case round=>
  obtain⟨k,hk,rfl,t,f⟩:=hrel;by_cases u:k<l.length
  .have a7:(k:Int)<(l.length:Int):=aa;have v:k<d.length:=aa;obtain⟨a,b,ea,eb,w⟩:=YN u;have S:(d[k].a,d[k].b)=(a,b):=by
    have h1:(d.map (λe=>(e.a,e.b)))[k]? =some (a,b):=by rw[q];exact w
    rw[jv,fD v] at h1;simpa using h1
   have m:=Rm d k v;have y:(d.take k).length<d.length:=by rw[iR];omega
   obtain⟨x,z⟩:∃x,d[k]=x:=⟨_,rfl⟩;rw[z] at S m;obtain⟨rfl,rfl⟩:=Prod.mk.inj S;obtain⟨bb,T,ho,q0,q1,q2,q3, -⟩:=s.kept f k x.a ea;obtain⟨b4,a8,U,B,D,E,F, -⟩:=s.kept f _ x.b eb;subst ho;cases U;have M:=(cell_of_heap (p:=⟨Bs,0,none⟩) (f Bs (.inl rfl))).trans c0;obtain⟨K,N⟩:∃K,(k+1) % l.length=K:=⟨_,rfl⟩;have b5:K<l.length:=by rw[<- N];exact Nat.mod_lt _ aa
   have a9:((k:Int)+1).tmod (l.length:Int)=(K:Int):=by rw[a3t,N]
   rw[N] at B D E F;have b6:(K:Int)<(l.length:Int):=aa;have b7:IntKind.i64.wrap ((k:Int)+1)=(k:Int)+1:=IntWalk.i64_in _ aa;have b8:IntKind.i64.wrap (K:Int)=(K:Int):=IntWalk.i64_in _ aa;have b9:¬(K:Int)<0:=aa;have c1:¬(l.length:Int)=0:=aa;have c2:((l.length:Int)==0)=false:=by rw[dW];omega
   have c3:¬l.length=0:=aa;have c4:¬l=[]:=by intro h;subst h;simp at u
   have H:=aF m;have X:=aF y;clear m y z S N w ea eb;have c:=dz wr (ak #[ag x.a.xn,ag x.a.xd,ag x.a.yn,ag x.a.yd] 233);have FN:=Four.new wr (ag x.a.xn) (ag x.a.xd) (ag x.a.yn) (ag x.a.yd) 233;have B:=(c.cell (aX B)).trans B;have D:=(c.cell (aX D)).trans D;have E:=(c.cell (aX E)).trans E;have F:=(c.cell (aX F)).trans F;have cV:=(c.cell (aX M)).trans M
   gi_wp2
   obtain⟨V,hV⟩:∃V,wr.alloc (ak #[ag x.a.xn,ag x.a.xd,ag x.a.yn,ag x.a.yd] 233)=V:=⟨_,rfl⟩;rw[hV] at c FN B D E F cV⊢;have Y:Hid (xW (edT Bs (some ⟨bb,T,none⟩) l) wr V):=xW.of_below c (λj hj=>by
    rcases hj with rfl|⟨-,b0,h2⟩
    .exact aX M
    .cases h2;exact aX q0)
   clear hV q0 q1 q2 q3 M;obtain⟨f0,f1,f2,f3⟩:=FN;obtain⟨fn,b1,O,b2,hy,hR⟩:=hY (d.take k) x V.drew (R _ _ _ t c.drew) X.out
   gi_region_with ((refine⟨(λh=>by cases h),hR.mono ?_⟩;rintro e W3 h3;obtain⟨bo,rfl,Z⟩:=V6 h3))
   all_goals(rcases Z with⟨rfl,a4,a5⟩|⟨rfl,I⟩;((gi_wp2;go_roundw);(case rel=>exact⟨k+1,aa,aI,by rw[H.out];exact a4,(f.trans Y.out).trans a5⟩);(case measure=>simp[intOf];omega));(gi_wp2;refine bg (results_none rfl _ _ _) rfl ?_;exact⟨⟨_,rfl⟩,.inr ⟨_,by rw[<- H.out];exact List.take_prefix _ _,I⟩⟩))
  .obtain rfl:k=l.length:=aa
   gi_wp2
   go_end0
   exact⟨⟨_,rfl⟩,.inl ⟨_,by rw[jH aa],t⟩⟩
end
section
open Go.RowKit Go.Shelf
set_option maxRecDepth 100000
attribute [local go_sem] Oper.semAt_some
def sq (p:Qt)(a b:Qt):Int:=fo p a b*fo p a b
def a7Q (l:List Qt)(p:Qt)(e:Ending):Prop:=
 (qd l/\jZ p=0/\e=ay (aH #[ag (yM (fo p) l),ag (yM (sq p) l),aY]))\/
 (¬(qd l/\jZ p=0)/\∃v,a6M v/\e=ay (aH #[ag 0,ag 0,v]))
theorem ZE (o:Option Addr)(k a:Nat)(w:ai):aL 313 #[.agg #[aj o k a]] w λe w'=>e=ay (.func (.func 346) #[] #[aK w.heap.size])/\w'=w.alloc (ak #[aj o k a] 113):=by
 go_enter func313,ntmps313;go_wp2;go_ret;exact⟨rfl,rfl⟩
theorem lg (W:ai)(v:ax)(t:TypeId):(W.alloc (ak #[v] t)).cell? ⟨W.heap.size,0,none⟩=some v/\(W.alloc (ak #[v] t)).frozen? ⟨W.heap.size,0,none⟩=false:=⟨aI,aI⟩
theorem V7 (w:ai)(v a b c d x y:ax)(t f e h:TypeId):
  ∀U,(((w.alloc (ak #[v] t)).alloc (ak #[a,b,c,d] f)).alloc (ak #[x] e)).alloc (ak #[y] h)=U->
  U.cell? ⟨w.heap.size,0,none⟩=some v/\Four U (w.heap.size+1) a b c d/\(U.cell? ⟨w.heap.size+1+1,0,none⟩=some x/\U.frozen? ⟨w.heap.size+1+1,0,none⟩=false)/\(U.cell? ⟨w.heap.size+1+1+1,0,none⟩=some y/\U.frozen? ⟨w.heap.size+1+1+1,0,none⟩=false)/\aD w U/\w.heap.size+1+1+1<U.heap.size:=by
 rintro U rfl;have i:=Below.alloc (aW ((((w.alloc (ak #[v] t)).alloc (ak #[a,b,c,d] f)).alloc (ak #[x] e)).heap.size) _) az (ak #[y] h);have n:=Below.alloc (aW (((w.alloc (ak #[v] t)).alloc (ak #[a,b,c,d] f)).heap.size) _) az (ak #[x] e);have o:=Below.alloc (aW ((w.alloc (ak #[v] t)).heap.size) _) az (ak #[a,b,c,d] f);have q:=dz w (ak #[v] t);have k:=aP n i;have l:=aP o k;have r:w.heap.size<(w.alloc (ak #[v] t)).heap.size:=aI;have s:(w.alloc (ak #[v] t)).heap.size=w.heap.size+1:=aI;have u:((w.alloc (ak #[v] t)).alloc (ak #[a,b,c,d] f)).heap.size=w.heap.size+1+1:=aI;have z:(((w.alloc (ak #[v] t)).alloc (ak #[a,b,c,d] f)).alloc (ak #[x] e)).heap.size=w.heap.size+1+1+1:=aI;have F:=Four.new (w.alloc (ak #[v] t)) a b c d f;rw[s] at F;have j:=lg ((w.alloc (ak #[v] t)).alloc (ak #[a,b,c,d] f)) x e;rw[u] at j;have m:=lg (((w.alloc (ak #[v] t)).alloc (ak #[a,b,c,d] f)).alloc (ak #[x] e)) y h;rw[z] at m;have g:w.heap.size+1+1<(((w.alloc (ak #[v] t)).alloc (ak #[a,b,c,d] f)).alloc (ak #[x] e)).heap.size:=aa;exact⟨(l.cell (p:=⟨w.heap.size,0,none⟩) r).trans (lg w v t).1,F.below k az,⟨(i.cell (p:=⟨w.heap.size+1+1,0,none⟩) g).trans j.1,(i.frozen (p:=⟨w.heap.size+1+1,0,none⟩) g).trans j.2⟩,m,aP q l,aI⟩
theorem Fz {V:ai}{X Y:Nat}(hne:X≠Y){a b u v:ax}(c:V.cell? (aJ X 0)=some u)(d:V.cell? (aJ Y 0)=some v):
  ((V.setCell ⟨X,0,none⟩ a).setCell ⟨Y,0,none⟩ b).cell? (aJ X 0)=some a/\((V.setCell ⟨X,0,none⟩ a).setCell ⟨Y,0,none⟩ b).cell? (aJ Y 0)=some b:=by
 have f:(V.setCell ⟨X,0,none⟩ a).cell? (aJ X 0)=some a:=iJ _ _ _ (by rw[c];rfl);have g:(V.setCell ⟨X,0,none⟩ a).cell? (aJ Y 0)=some v:=by rw[dh _ _ _ _ (by simp;exact hne)];exact d
 refine⟨?_,iJ _ _ _ (by rw[g];rfl)⟩;rw[dh _ _ _ _ (by simp;exact λe=>hne e.symm)];exact f
abbrev Ih (a:List Eg):List (Qt×Qt):=a.map (λe=>(e.a,e.b))
theorem a3u:∀L:List (Qt×Qt),(∀e∈L,PB e.1/\PB e.2)->∃b:List Eg,Ih b=L
 |[],_=>⟨[],rfl⟩
 |e::L,h=>by
  obtain⟨b,a⟩:=a3u L (λx a=>h x (FM _ a));have c:=h e (List.mem_cons_self ..);exact⟨⟨e.1,e.2,c.1,c.2⟩::b,by simp only[Ih,ny] at a⊢;rw[a]⟩
theorem LM {l:List Qt}{e:Qt×Qt}(h:e∈pg l):e.1∈l/\e.2∈l:=by
 cases l with
 |nil=>cases h
 |cons a l=>
  unfold pg at h;obtain⟨c,d⟩:=List.of_mem_zip (a:=e.1) (b:=e.2) h;grind
structure Rn (p:Qt)(B1 B2 B3 N:Nat)(L:List (Qt×Qt))(W:ai):Prop where
 f:Four W B1 (ag p.xn) (ag p.xd) (ag p.yn) (ag p.yd)
 c2:W.cell? (aJ B2 0)=some (ag (iG (fo p) L))
 f2:W.frozen? ⟨B2,0,none⟩=false
 c3:W.cell? (aJ B3 0)=some (ag (iG (sq p) L))
 f3:W.frozen? ⟨B3,0,none⟩=false
 sz:N<=W.heap.size
theorem Rn.kept {p:Qt}{d e f N:Nat}{L:List (Qt×Qt)}{A B:ai}{c:Option Nat}(h:Rn p d e f N L A)(a:A.grownBy B c)(b:∀r,c=some r->∃o:Obj,A.heap[r]? =some o/\o.isCells=false):Rn p d e f N L B:=
 ⟨⟨cell_kept h.f.c0 a b,cell_kept h.f.c1 a b,cell_kept h.f.c2 a b,cell_kept h.f.c3 a b⟩,cell_kept h.c2 a b,(frozen_kept h.c2 a b).trans h.f2,cell_kept h.c3 a b,(frozen_kept h.c3 a b).trans h.f3,bO h.sz a.size⟩
theorem a7R (p:Qt)(a b c N:Nat):Go.Own (λ(pre:List Eg) W=>Rn p a b c N (Ih pre) W):=λ_ _ _ _ d e f=>Rn.kept d e f
theorem zH {W a:ai}(h:aD W a):KeepsOthers W a:=⟨h.size,λk _ b _=>(h.block k (eY.1 b).1).trans b⟩
theorem xW.set {T:Nat->Prop}{A:ai}{B:Nat}{u:ax}(a:∀k,T k->k≠B):xW T A (A.setCell ⟨B,0,none⟩ u):=λj b=>dw _ _ _ j (λe=>a j b e)
theorem Rn.set {p:Qt}{f c e N:Nat}{L g:List (Qt×Qt)}{W:ai}(h:Rn p f c e N L W)(i:c≠f)(j:e≠f)(k:c≠e){a b:Int}(l:iG (fo p) g=a)(m:iG (sq p) g=b):
  Rn p f c e N g ((W.setCell ⟨c,0,none⟩ (ag a)).setCell ⟨e,0,none⟩ (ag b)):=by
 obtain⟨n,q⟩:=Fz (V:=W) (X:=c) (Y:=e) (a:=ag a) (b:=ag b) k h.c2 h.c3;have d:∀o v,W.cell? (aJ f o)=some v->((W.setCell ⟨c,0,none⟩ (ag a)).setCell ⟨e,0,none⟩ (ag b)).cell? (aJ f o)=some v:=λo v r=>by
  rw[dh _ _ _ _ j,dh _ _ _ _ i];exact r
 refine⟨⟨d _ _ h.f.c0,d _ _ h.f.c1,d _ _ h.f.c2,d _ _ h.f.c3⟩,by rw[l];exact n,?_,by rw[m];exact q,?_,?_⟩
 .rw[jT,jT];exact h.f2
 .rw[jT,jT];exact h.f3
 .have s:=(grownBy_setCell' W c (ag a)).size;have t:=(grownBy_setCell' (W.setCell ⟨c,0,none⟩ (ag a)) e (ag b)).size;have:=h.sz;omega
theorem Rn.below {p:Qt}{a b c N:Nat}{L:List (Qt×Qt)}{A B:ai}(h:Rn p a b c N L A)(d:aD A B):Rn p a b c N L B:=h.kept (grown_of d) (λr e=>by cases e)
theorem Four.kept' {b:Nat}{x y z u:ax}{A B:ai}{a:Option Nat}(h:Four A b x y z u)(c:A.grownBy B a)(d:∀r,a=some r->∃o:Obj,A.heap[r]? =some o/\o.isCells=false):Four B b x y z u:=
 ⟨cell_kept h.c0 c d,cell_kept h.c1 c d,cell_kept h.c2 c d,cell_kept h.c3 c d⟩
theorem ZF (aB aS aZ:Addr)(l:List Qt)(o:Option Addr)(d:Nat)(p:Qt)(w:ai)(h:iH w o l)(hp:PI p)(hE:E3 aB aS aZ w):
  CallsIn Fence.wide 9 prog 252 #[.agg #[aj o l.length d],rT p] w λe W=>a7Q l p e/\aD w W:=by
 refine callsIn_of_wp_marks func252 rfl trivial ?_ rfl;simp only[ntmps252,jw,eZ,iT,Nat.reduceAdd,Nat.reduceSub,jV,jU,jX,jW,gK,gH]
 gi_wp2
 obtain⟨U,hU⟩:∃U,(((w.alloc (ak #[aj o l.length d] 113)).alloc (ak #[ag p.xn,ag p.xd,ag p.yn,ag p.yd] 233)).alloc (ak #[ag 0] 3)).alloc (ak #[ag 0] 3)=U:=⟨_,rfl⟩;obtain⟨cS,F1,⟨g,f2⟩,⟨i,f3⟩,uP,f1⟩:=V7 w _ _ _ _ _ _ _ _ _ _ _ U hU;rw[hU];clear hU;have CK:=Aw aB aS aZ l o d U (h.below uP az) (hE.below uP az);refine⟨trivial,(dM.2 CK).mono ?_⟩;rintro e w1 ⟨hc,I⟩;have zI:=aP uP I;have O:=(I.cell (aX cS)).trans cS;have c8:=F1.below I az;have m:=(I.cell (aX g)).trans g;have n:=(I.cell (aX i)).trans i;have P:=(I.frozen (aX g)).trans f2;have Q:=(I.frozen (aX i)).trans f3;clear CK cS g i f2 f3;obtain⟨g0,g1,g2,g3⟩:=c8;rcases hc.plain with⟨R,rfl⟩|⟨S,v,hv,rfl⟩
 .clear hc;have CP:=Gw aB aS aZ p w1 hp (hE.below zI az);by_cases t:jZ p=0
  .rw[t] at CP;have a4:Hid (qd l/\jZ p=0):=⟨R,t⟩;clear R t
   gi_wp2
   refine⟨trivial,(dM.2 CP).mono ?_⟩;rintro e f ⟨rfl,u⟩;simp only[wF];have c9:=(u.cell (aX O)).trans O
   gi_wp2
   refine⟨trivial,(dM.2 (ZE o l.length d f)).mono ?_⟩;rintro e J ⟨rfl,a5⟩;have Ou:=aP zI u;have b3:=dz f (ak #[aj o l.length d] 113);have hX:J.heap[f.heap.size]? =some (ak #[aj o l.length d] 113):=by rw[a5];exact fE f _
   rw[<- a5] at b3;clear a5;have yX:=aP Ou b3;have a8:f.heap.size<J.heap.size:=(eY.1 hX).1;have f4:=I.size;have f5:=u.size;obtain⟨y,a9⟩:=a4.out;obtain⟨xs,F⟩:=a3u (pg l) (λe he=>⟨PB.of (y.2 _ (LM he).1),PB.of (y.2 _ (LM he).2)⟩);have f6:xs.length<=30:=by have h1:=Lc l;rw[<- F,dP] at h1;have:=y.1;omega
   have f7:=y.1;have d0:=PB.of a9;have d3:=h.below yX az;have LG:∀k,edT f.heap.size o l k->k<J.heap.size/\k≠w.heap.size+1+1/\k≠w.heap.size+1+1+1:=λk H=>by
    rcases H with rfl|⟨d4,f8,ho⟩
    .exact⟨a8,aa,aa⟩
    .cases l with
     |nil=>exact absurd rfl d4
     |cons a l=>
      obtain⟨b,e9,e1,h2⟩:=h 0 a rfl;rw[ho] at e1;cases e1;have H:=aX h2.c0;simp at H;exact⟨by have:=yX.size;omega,aa,aa⟩
   have q:Rn p (w.heap.size+1) (w.heap.size+1+1) (w.heap.size+1+1+1) 0 [] J:=Rn.below (Rn.below ⟨⟨g0,g1,g2,g3⟩,m,P,n,Q,bA _⟩ u) b3;have I0:Rn p (w.heap.size+1) (w.heap.size+1+1) (w.heap.size+1+1+1) J.heap.size [] J:=⟨q.f,q.c2,q.f2,q.c3,q.f3,bJ _⟩;clear q;clear a9 y g0 g1 g2 g3 m P n Q CP O c9;have d6:=aF F;have b0:=ZC l xs F aa o d (9-1) f.heap.size J hX d3;clear F
   gi_wp2
   refine wpIn_rangeFunc_ownH rfl aa (gf:=346) (lb:=#[aK f.heap.size]) rfl trivial (enters_of func346 aA rfl)
    b0 xW.trans (xW.put (λk H=>(LG k H).1)) (aW _ _) (λ_=>rfl)
    (λpre W=>Rn p (w.heap.size+1) (w.heap.size+1+1) (w.heap.size+1+1+1) J.heap.size (Ih pre) W/\aD w W)
    (λ_ _ _=>False)
    (OwnFrom.and ((a7R p _ _ _ _).from _) (ownFrom_below az yX.size))
    (λc=>λs A B d7 hs hg hr=>hs)
    ⟨I0,yX⟩
    (λx a' W=>∃Bx By,Four W Bx (ag x.a.xn) (ag x.a.xd) (ag x.a.yn) (ag x.a.yd)/\Four W By (ag x.b.xn) (ag x.b.xd) (ag x.b.yn) (ag x.b.yd)/\a'={tmps:=#[.agg #[aj o l.length d],rT p,aK w.heap.size,.pointer (some ⟨w.heap.size+1,0,none⟩),.pointer (some ⟨w.heap.size+1+1,0,none⟩),.pointer (some ⟨w.heap.size+1+1+1,0,none⟩),aY,aY,aY,aK Bx,aK By,undef,.agg #[aj o l.length d],aY,aY,.bool false,undef,rT p,aY,aY,.bool false,undef,undef,undef,undef,.agg #[aj o l.length d],.func (.func 346) #[] #[aK f.heap.size],rT x.a,rT x.b,undef,undef,undef,undef,undef,undef,undef,undef,undef,undef,undef,undef,undef,undef],defers:=[]})
    (λx a' s A B d7 hs hg hr=>by obtain⟨Bx,By,h1,h2,h3⟩:=hs;exact⟨Bx,By,h1.kept' hg (λr e=>(hr r e).2),h2.kept' hg (λr e=>(hr r e).2),h3⟩)
    ?assign ?body ?done ?stop
   case assign=>
    rintro L pre x W K ⟨hI,hB⟩ hK
    gi_wp2
    have k1:=dz W (ak #[ag x.a.xn,ag x.a.xd,ag x.a.yn,ag x.a.yd] 233);have k2:=dz (W.alloc (ak #[ag x.a.xn,ag x.a.xd,ag x.a.yn,ag x.a.yd] 233)) (ak #[ag x.b.xn,ag x.b.xd,ag x.b.yn,ag x.b.yd] 233);have FA:=(Four.new W (ag x.a.xn) (ag x.a.xd) (ag x.a.yn) (ag x.a.yd) 233).below k2 az;have FB:=Four.new (W.alloc (ak #[ag x.a.xn,ag x.a.xd,ag x.a.yn,ag x.a.yd] 233)) (ag x.b.xn) (ag x.b.xd) (ag x.b.yn) (ag x.b.yd) 233;rw[show(W.alloc (ak #[ag x.a.xn,ag x.a.xd,ag x.a.yn,ag x.a.yd] 233)).heap.size=W.heap.size+1 from by simp] at FB;have k:=aP k1 k2;exact hK _ _ (((KeepsOthers.alloc _ _).trans (KeepsOthers.alloc _ _)).from _) (xW.of_below k (λj hj=>by have h1:=(LG j hj).1;have h2:=hI.sz;omega)) ⟨hI.below k,aP hB k⟩ ⟨W.heap.size,W.heap.size+1,FA,FB,rfl⟩
   case body=>
    rintro L pre x a' W hl hr ⟨hI,hB⟩ ⟨Bx,By,⟨x0,x1,x2,x3⟩,⟨y0,y1,y2,y3⟩,rfl⟩ f9;have TO:=YQ x.a x.b p W x.ha x.hb d0;have ho:_/\iG (fo p) (Ih pre)<=iG (sq p) (Ih pre)/\ - iG (fo p) (Ih pre)<=iG (sq p) (Ih pre)/\0<=iG (sq p) (Ih pre)/\iG (sq p) (Ih pre)<=((Ih pre).length:Int)/\_/\_:=WZ (fo p) (λa b=>Gv p a b) (Ih pre);obtain⟨-,o1,o2,o3,o4, -, -⟩:=ho;have g4:(Ih pre).length<=30:=by rw[dP];omega
    have b4:iG (fo p) (Ih (pre++[x]))=iG (fo p) (Ih pre)+fo p x.a x.b:=by rw[Ih,iK,Qe];simp[iG]
    have b5:iG (sq p) (Ih (pre++[x]))=iG (sq p) (Ih pre)+fo p x.a x.b*fo p x.a x.b:=by rw[Ih,iK,Qe];simp[iG,sq]
    have b6:=hI;obtain⟨⟨z0,z1,z2,z3⟩,g,f2,i,f3,d8⟩:=hI;have b7: -1<=fo p x.a x.b/\fo p x.a x.b<=1/\0<=fo p x.a x.b*fo p x.a x.b/\fo p x.a x.b*fo p x.a x.b<=1:=by rcases Gv p x.a x.b with h|h|h<;>rw[h]<;>decide
    have a6:Hid _:=b4;have a7:Hid _:=b5;generalize hgT:fo p x.a x.b=T at TO b7 a6 a7;generalize hg2:iG (fo p) (Ih pre)=z at g o1 o2 o3 o4 a6;generalize hg3:iG (sq p) (Ih pre)=C at i o1 o2 o3 o4 a7;obtain⟨t1,t2,t3,t4⟩:=b7;have HG:Hid (fo p x.a x.b=T/\iG (fo p) (Ih pre)=z/\iG (sq p) (Ih pre)=C):=⟨hgT,hg2,hg3⟩;have HI:=aF b6;clear b4 b5 hgT hg2 hg3 b6
    gi_wp2_with (refine⟨trivial,?_⟩;gi_at_call 314;refine(CallsIn.inRound L (dM.2 TO)).mono ?_;rintro e w' ⟨rfl,M⟩;have b8:=(M.cell (aX g)).trans g;have g5:=(M.frozen (aX g)).trans f2;have b9:=(M.cell (aX i)).trans i;have g6:=(M.frozen (aX i)).trans f3)
    obtain⟨e1,e2,e3⟩:=HG.out;refine⟨((zH M).trans ((gT _ _ _).trans (gT _ _ _))).from _,((xW.of_below M (λj hj=>by have h1:=(LG j hj).1;omega)).trans (xW.set (λk H=>(LG k H).2.1))).trans (xW.set (λk H=>(LG k H).2.2)),Rn.set (HI.out.below M) aa aa aa a6.out a7.out,?_⟩;exact((aP hB M).setCell bq _).setCell bq _
   case done=>
    rintro D ys W hD rfl ⟨hI,hB⟩ hK;obtain⟨-,g,f2,i,f3,d8⟩:=hI;rw[d6.out] at g i;have b8:W.drew.cell? ⟨w.heap.size+1+1,0,none⟩=some (ag (iG (fo p) (pg l))):=g;have b9:W.drew.cell? ⟨w.heap.size+1+1+1,0,none⟩=some (ag (iG (sq p) (pg l))):=i;have c0:yM (fo p) l=iG (fo p) (pg l):=rfl;have c1:yM (sq p) l=iG (sq p) (pg l):=rfl;have HW:Hid (yM (fo p) l=iG (fo p) (pg l)/\yM (sq p) l=iG (sq p) (pg l)):=⟨c0,c1⟩;clear c0 c1;generalize iG (fo p) (pg l)=z at g b8 HW;generalize iG (sq p) (pg l)=C at i b9 HW
    gi_wp2
    have d9:=((gT W ⟨w.heap.size+1+1,0,none⟩ (ag z)).trans (gT _ ⟨w.heap.size+1+1+1,0,none⟩ (ag C))).same D _ hK rfl;have E:((W.setCell ⟨w.heap.size+1+1,0,none⟩ (ag z)).setCell ⟨w.heap.size+1+1+1,0,none⟩ (ag C)).drew.heap[D]? =some (.deferred (some [])):=d9;obtain⟨d1,d2⟩:=Fz (V:=W) (X:=w.heap.size+1+1) (Y:=w.heap.size+1+1+1) (a:=ag z) (b:=ag C) aa g i;have c4:((W.setCell ⟨w.heap.size+1+1,0,none⟩ (ag z)).setCell ⟨w.heap.size+1+1+1,0,none⟩ (ag C)).drew.cell? ⟨w.heap.size+1+1,0,none⟩=some (ag z):=d1;have c5:((W.setCell ⟨w.heap.size+1+1,0,none⟩ (ag z)).setCell ⟨w.heap.size+1+1+1,0,none⟩ (ag C)).drew.cell? ⟨w.heap.size+1+1+1,0,none⟩=some (ag C):=d2;have bz:=((hB.setCell (p:=⟨w.heap.size+1+1,0,none⟩) bq (ag z)).setCell (p:=⟨w.heap.size+1+1+1,0,none⟩) bq (ag C)).drew
    gi_region
    all_goals
     gi_wp2
     clear d1 d2;generalize ((W.setCell ⟨w.heap.size+1+1,0,none⟩ (ag z)).setCell ⟨w.heap.size+1+1+1,0,none⟩ (ag C)).drew=Z at E c4 c5 bz⊢;refine⟨aI,.inl ⟨_,_,rfl,run_takeDeferred E,?_⟩⟩;have e0:=cell_kept c4 (grownBy_putObj' _ D (.deferred none)) (λr e=>by cases e;exact⟨_,E,rfl⟩);have e4:=cell_kept c5 (grownBy_putObj' _ D (.deferred none)) (λr e=>by cases e;exact⟨_,E,rfl⟩);refine⟨aH #[ag z,ag C,aY],?_,.inl ⟨a4.out.1,a4.out.2,by rw[HW.out.1,HW.out.2]⟩,bz.trans (belowK_b (w:=w) az Z D _ _ (by have:=yX.size;omega) E rfl rfl)⟩;simp[results,results252,go_sem,e0,e4]
   case stop=>exact λD c pre W hD f0 hf=>hf.elim
  .have S:¬(qd l/\jZ p=0):=λh=>t h.2;obtain⟨ad,TE⟩:=jy aB aS aZ (show jZ p=2\/jZ p=3 by have:=Uj p;omega);rw[TE] at CP;clear TE t R
   gi_wp2
   refine⟨trivial,(dM.2 CP).mono ?_⟩;rintro e f ⟨rfl,u⟩;have c6:=(u.cell (aX m)).trans m;have c7:=(u.cell (aX n)).trans n;have e5:=(u.frozen (aX m)).trans P;have e6:=(u.frozen (aX n)).trans Q;have e7:=λo=>cell_kept c6 (rZ f o none) (λr e=>by cases e);have e8:=λo=>cell_kept c7 (rZ f o none) (λr e=>by cases e);have g7:=λo=>(frozen_kept c6 (rZ f o none) (λr e=>by cases e)).trans e5;have g8:=λo=>(frozen_kept c7 (rZ f o none) (λr e=>by cases e)).trans e6
   gi_wp2
   obtain⟨d1,d2⟩:=Fz (V:=f.alloc (ak #[ag 30,aU 453 (.pointer (some ad))] 71)) (X:=w.heap.size+1+1) (Y:=w.heap.size+1+1+1) (a:=ag 0) (b:=ag 0) aa (e7 _) (e8 _);exact⟨aH #[ag 0,ag 0,aU 67 (aK f.heap.size)],by simp[results,results252,go_sem,d1,d2],.inr ⟨S,_,.inr ⟨_,rfl⟩,rfl⟩,(((aP zI u).alloc (aP zI u).size _).setCell bq _).setCell bq _⟩
 .clear hc;have N:¬(qd l/\jZ p=0):=λh=>S h.1;obtain⟨d1,d2⟩:=Fz (V:=w1) (X:=w.heap.size+1+1) (Y:=w.heap.size+1+1+1) (a:=ag 0) (b:=ag 0) aa m n;have bz:=(zI.setCell (p:=⟨w.heap.size+1+1,0,none⟩) bq (ag 0)).setCell (p:=⟨w.heap.size+1+1+1,0,none⟩) bq (ag 0);rcases hv with⟨a,rfl⟩|⟨a,rfl⟩
  .gi_wp2
   exact⟨aH #[ag 0,ag 0,aU 453 (.pointer (some a))],by simp[results,results252,go_sem,d1,d2],.inr ⟨N,_,.inl ⟨a,rfl⟩,rfl⟩,bz⟩
  .gi_wp2
   exact⟨aH #[ag 0,ag 0,aU 67 (.pointer (some a))],by simp[results,results252,go_sem,d1,d2],.inr ⟨N,_,.inr ⟨a,rfl⟩,rfl⟩,bz⟩
end
section
open Go.RowKit
set_option maxRecDepth 20000
def NF (l:List Qt)(p:Qt)(a b:Int)(v:ax):Prop:=
 (qd l/\jZ p=0/\a=yM (fo p) l/\b=yM (sq p) l/\v=aY)\/(¬(qd l/\jZ p=0)/\a=0/\b=0/\a6M v)
theorem Ii (aB aS aZ:Addr)(l:List Qt)(o:Option Addr)(b:Nat)(p:Qt)(w:ai)(h:iH w o l)(hp:PI p)(hE:E3 aB aS aZ w):
    aL 252 #[.agg #[aj o l.length b],rT p] w λe W=>∃f g v,NF l p f g v/\e=ay (aH #[ag f,ag g,v])/\aD w W:=
  (dM.1 (ZF aB aS aZ l o b p w h hp hE)).mono λe W h=>by
    obtain⟨a|a,i⟩:=h
    . obtain⟨a,c,d⟩:=a
      exact⟨_,_,_,.inl ⟨a,c,rfl,rfl,rfl⟩,d,i⟩
    . obtain⟨a,v,c,d⟩:=a
      exact⟨_,_,_,.inr ⟨a,rfl,rfl,c⟩,d,i⟩
theorem Cy (w:ai)(v a b c d:ax)(t e:TypeId):
  ∀U,(w.alloc (ak #[v] t)).alloc (ak #[a,b,c,d] e)=U->U.cell? ⟨w.heap.size,0,none⟩=some v/\Four U (w.heap.size+1) a b c d/\aD w U:=by
 rintro U rfl;have f:=dz (w.alloc (ak #[v] t)) (ak #[a,b,c,d] e);have F:=Four.new (w.alloc (ak #[v] t)) a b c d e;rw[show(w.alloc (ak #[v] t)).heap.size=w.heap.size+1 from by simp] at F;exact⟨(f.cell (p:=⟨w.heap.size,0,none⟩) aI).trans (lg w v t).1,F,aP (dz w _) f⟩
abbrev agw:ax:=au ⟨#[119,105,110,100]⟩
abbrev agx:ax:=au ⟨#[101,118,101,110]⟩
theorem V8 (aB aS aZ:Addr)(l:List Qt)(o:Option Addr)(a:Nat)(p:Qt)(w:ai)(h:iH w o l)(hp:PI p)(hE:E3 aB aS aZ w):
  aL 183 #[.agg #[aj o l.length a],rT p,agw] w λe W=>∃c g v,NF l p c g v/\e=ay (aH #[.bool (c !=0),v])/\aD w W:=by
 have d:=λV (b:aD w V)=>Ii aB aS aZ l o a p V (h.below b az) hp (hE.below b az);go_enter func183,ntmps183;go_upto_region 1 with fail;obtain⟨U,f⟩:∃U,(w.alloc (ak #[aj o l.length a] 113)).alloc (ak #[ag p.xn,ag p.xd,ag p.yn,ag p.yd] 233)=U:=⟨_,rfl⟩;obtain⟨k,⟨m,n,q,r⟩,i⟩:=Cy w _ _ _ _ _ _ _ U f;rw[f];clear f;have d:=d U i;go_wp2_with(go_at_call 252;refine d.mono ?_;rintro e s ⟨c,g,v,b,rfl,j⟩);refine bg (results_tmp2 rfl _ _ _) rfl ?_;exact⟨_,_,_,b,rfl,aP i j⟩
theorem V9 (aB aS aZ:Addr)(l:List Qt)(o:Option Addr)(a:Nat)(p:Qt)(w:ai)(h:iH w o l)(hp:PI p)(hE:E3 aB aS aZ w):
  aL 183 #[.agg #[aj o l.length a],rT p,agx] w λe W=>∃g c v,NF l p g c v/\e=ay (aH #[.bool (c.tmod 2==1),v])/\aD w W:=by
 have d:=λV (b:aD w V)=>Ii aB aS aZ l o a p V (h.below b az) hp (hE.below b az);go_enter func183,ntmps183;go_upto_region 1 with fail;obtain⟨U,f⟩:∃U,(w.alloc (ak #[aj o l.length a] 113)).alloc (ak #[ag p.xn,ag p.xd,ag p.yn,ag p.yd] 233)=U:=⟨_,rfl⟩;obtain⟨k,⟨m,n,q,r⟩,i⟩:=Cy w _ _ _ _ _ _ _ U f;rw[f];clear f;have d:=d U i;go_wp2_with(go_at_call 252;refine d.mono ?_;rintro e s ⟨g,c,v,b,rfl,j⟩);refine bg (results_tmp2 rfl _ _ _) rfl ?_;exact⟨_,_,_,b,rfl,aP i j⟩
end
section
open Go.RowKit
theorem a3w {w:ai}{b:Nat}{a0 a1 a2 a3:Qt}{t:TypeId}{f:Nat×Nat}(h:w.heap[b]? =some (ak #[ag a0.xn,ag a0.xd,ag a0.yn,ag a0.yd,ag a1.xn,ag a1.xd,ag a1.yn,ag a1.yd,ag a2.xn,ag a2.xd,ag a2.yn,ag a2.yd,ag a3.xn,ag a3.xd,ag a3.yn,ag a3.yd] t f))
  (e:PI a0) (g:PI a1) (j:PI a2) (l:PI a3):iH w (some ⟨b,0,none⟩) [a0,a1,a2,a3]:=by
 have c:∀k v,#[Value.int .i64 a0.xn,ag a0.xd,ag a0.yn,ag a0.yd,ag a1.xn,ag a1.xd,ag a1.yn,ag a1.yd,ag a2.xn,ag a2.xd,ag a2.yn,ag a2.yd,ag a3.xn,ag a3.xd,ag a3.yn,ag a3.yd][k]? =some v->w.cell? (aJ b k)=some v:=λk v m=>by
  simp only[World.cell?,h];exact m
 intro i a d
 match i,d with
 |0,d=>cases d;exact⟨b,0,rfl,c 0 _ rfl,c 1 _ rfl,c 2 _ rfl,c 3 _ rfl,e⟩
 |1,d=>cases d;exact⟨b,0,rfl,c 4 _ rfl,c 5 _ rfl,c 6 _ rfl,c 7 _ rfl,g⟩
 |2,d=>cases d;exact⟨b,0,rfl,c 8 _ rfl,c 9 _ rfl,c 10 _ rfl,c 11 _ rfl,j⟩
 |3,d=>cases d;exact⟨b,0,rfl,c 12 _ rfl,c 13 _ rfl,c 14 _ rfl,c 15 _ rfl,l⟩
 |(k+4),d=>simp at d
theorem cO {w:ai}{b:Nat}{cs:Array ax}{t:TypeId}{f:Nat×Nat}(h:w.heap[b]? =some (ak cs t f))(k:Nat)(v:ax)(a:cs[k]? =some v):w.cell? (aJ b k)=some v:=by
 simp only[World.cell?,h];exact a
theorem gI {w:ai}{b:Nat}{cs:Array ax}{t:TypeId}(h:w.heap[b]? =some (ak cs t (0,0)))(k:Nat):w.frozen? ⟨b,k,none⟩=false:=by
 simp[World.frozen?,h]
theorem ko {X:ai}{k:Nat}{v:Obj}(o:Obj)(h:X.heap[k]? =some v):(X.alloc o).heap[k]? =some v:=((dz X o).block k (eY.1 h).1).trans h
theorem uY {X:ai}{k:Nat}(o:Obj)(h:X.heap.size=k):(X.alloc o).heap[k]? =some o:=by rw[<- h];exact fE X o
theorem agy (w:ai)(a b c d e f:Obj):∀U,(((((w.alloc a).alloc b).alloc c).alloc d).alloc e).alloc f=U->
  U.heap[w.heap.size]? =some a/\U.heap[w.heap.size+1]? =some b/\U.heap[w.heap.size+1+1]? =some c/\U.heap[w.heap.size+1+1+1]? =some d/\U.heap[w.heap.size+1+1+1+1]? =some e/\U.heap[w.heap.size+1+1+1+1+1]? =some f/\aD w U:=by
 rintro U rfl;refine⟨?_,?_,?_,?_,?_,?_,?_⟩
 .exact ko _ (ko _ (ko _ (ko _ (ko _ (uY _ rfl)))))
 .exact ko _ (ko _ (ko _ (ko _ (uY _ aI))))
 .exact ko _ (ko _ (ko _ (uY _ aI)))
 .exact ko _ (ko _ (uY _ aI))
 .exact ko _ (uY _ aI)
 .exact uY _ aI
 .exact((((((aW _ _).alloc az _).alloc aI _).alloc bq _).alloc bq _).alloc bq _).alloc bq _
theorem aa9 {an ad bn bd:Int}(a:fV an ad=0)(b:fV bn bd=0):(add an ad bn bd).c=0\/(add an ad bn bd).c=2:=by
 have e:add an ad bn bd=low (an*bd+bn*ad) (ad*bd):=by unfold add;rw[aG (by simp[a]),aG (by simp[b])]
 rw[e];rcases C8 (n:=an*bd+bn*ad) (d:=ad*bd) with h|h
 .grind
 .exact .inl h
end
section
open Go.RowKit Go.Shelf
set_option maxRecDepth 20000
theorem Va (s:aO)(w:ai)(h:behind 44 s.data.toList=none):
  aL 113 #[au s,au ⟨#[44]⟩] w λe w'=>e=ay (aH #[au s,au ⟨#[]⟩,.bool false])/\∃k,w'=w.drewN k:=by
 obtain⟨b,_⟩:=index_none 44 _ h;have a:=Tryz.stringslite_Index_one s 44;rw[b] at a;have c:=aF a;clear a b h;go_enter func113,ntmps113;go_wp2_with(go_at_call 175;refine(c.out _).mono ?_;rintro e w' ⟨rfl,rfl⟩);go_ret3;exact⟨rfl,0,rfl⟩
theorem Vb (s a b:aO)(w:ai)(d:behind 44 s.data.toList=some b.data.toList)(f:ahead 44 s.data.toList=a.data.toList)(p:s.size<=9223372036854475807):
  aL 113 #[au s,au ⟨#[44]⟩] w λe w'=>e=ay (aH #[au a,au b,.bool true])/\∃k,w'=w.drewN k:=by
 obtain⟨i,g,l,h,j⟩:=uL 44 _ _ d;rw[mH] at l;have c:=Tryz.stringslite_Index_one s 44;rw[g] at c;have m:=aF c;have q:s.extract 0 i=a:=ext_list (by rw[Lib.extract_data];simpa[f] using h);have r:s.extract (i+1) s.size=b:=ext_list (by rw[Lib.extract_to_end];exact j);clear c g h j f d;have n:(i:Int)<(s.size:Int):=aa;have o:(i:Int)+1<=(s.size:Int):=aa;have t:(0:Int)<=(i:Int):=aa;go_enter func113,ntmps113;go_wp2_with(go_at_call 175;refine(m.out _).mono ?_;rintro e w' ⟨rfl,rfl⟩)
 go_quiet (fail)
 go_wp2;go_ret3;exact⟨rfl,_,rfl⟩
theorem ZG (s:aO)(w:ai)(h:behind 44 s.data.toList=none):
  aL 59 #[au s,au ⟨#[44]⟩] w λe w'=>e=ay (aH #[au s,au ⟨#[]⟩,.bool false])/\∃k,w'=w.drewN k:=by
 have a:=aF h;clear h;go_enter func59,ntmps59;go_wp2_with(go_at_call 113;refine(Va s _ a.out).mono ?_;rintro e w' ⟨rfl,k,rfl⟩);go_ret3;exact⟨rfl,_,rfl⟩
theorem ZH (s a b:aO)(w:ai)(c:behind 44 s.data.toList=some b.data.toList)(d:ahead 44 s.data.toList=a.data.toList)(f:s.size<=9223372036854475807):
  aL 59 #[au s,au ⟨#[44]⟩] w λe w'=>e=ay (aH #[au a,au b,.bool true])/\∃k,w'=w.drewN k:=by
 have g:=aF c;have h:=aF d;clear d c;go_enter func59,ntmps59;go_wp2_with(go_at_call 113;refine(Vb s a b _ g.out h.out f).mono ?_;rintro e w' ⟨rfl,k,rfl⟩);go_ret3;exact⟨rfl,_,rfl⟩
theorem Cz {E:Nat->Addr}{c:Nat}(h:c=1\/c=2\/c=3):TA (E 1) (E 2) (E 3) (E 2) c=eV (E c):=by
 rcases h with rfl|rfl|rfl<;>rfl
theorem uZ {E:Nat->Addr}:TA (E 1) (E 2) (E 3) (E 2) 0=aY:=rfl
abbrev zQt:Qt:=⟨0,0,0,0⟩
def RpR (x:Option Qt)(e:Ending):Prop:=match x with
 |some q=>e=ay (aH #[rT q,.bool true])
 |none=>e=ay (aH #[rT zQt,.bool false])
section
variable {E:Nat->Addr}{W:ai}
theorem FE (a:NE E W)(s:aO)(hs:s.size<=1000000):aL 319 #[au s] W λe w'=>e=ay (aH #[.agg #[ag (rd s.data.toList).n,ag (rd s.data.toList).d],TA (E 1) (E 2) (E 3) (E 2) (rd s.data.toList).c])/\aD W w':=
 xK (E 1) (E 2) (E 3) (E 2) s W a.e3 a.c1 aa
theorem xu (s l r:aO)(q:Bool)(j m n o:Int)(A L:ax)(c:Option Qt)
  (R:∀V,aL 59 #[au s,au ⟨#[44]⟩] V λe w'=>e=ay (aH #[au l,au r,.bool q])/\∃k,w'=V.drewN k)
  (S:∀V,NE E V->aL 319 #[au l] V λe w'=>e=ay (aH #[.agg #[ag j,ag m],A])/\aD V w')
  (T:∀V,NE E V->aL 319 #[au r] V λe w'=>e=ay (aH #[.agg #[ag n,ag o],L])/\aD V w')
  (uj:(q=false/\c=none)\/(q=true/\(∃a,A=eV a)/\c=none)\/(q=true/\A=aY/\(∃a,L=eV a)/\c=none)\/(q=true/\A=aY/\L=aY/\c=some ⟨j,m,n,o⟩)) (X:NE E W):
  aL 322 #[au s] W λe w'=>RpR c e/\aD W w':=by
 have Y:=dR W (ak #[ag 0,ag 0,ag 0,ag 0] 233);have Z:=dY W #[ag 0,ag 0,ag 0,ag 0] 233;have HN:=aF X;clear X;go_enter func322,ntmps322;go_upto_region 2 with(go_at_call 59;refine(R _).mono ?_;rintro e w1 ⟨rfl,k,hw⟩;rw[hw]);have h:=below_drewN Y k;obtain⟨U1,i⟩:∃U,((W.alloc (ak #[ag 0,ag 0,ag 0,ag 0] 233)).drewN k)=U:=⟨_,rfl⟩;have B:U1.heap[W.heap.size]? =some (ak #[ag 0,ag 0,ag 0,ag 0] 233):=by rw[<- i];exact Z
 rw[i] at h⊢;clear i Z Y;have R1:=S U1 (HN.out.below h);go_upto_region 3 with(go_at_call 319;refine R1.mono ?_;rintro e C ⟨rfl,M⟩);have N:=dR C (ak #[ag j,ag m] 163);have p:=dY C #[ag j,ag m] 163;obtain⟨U2,t⟩:∃U,C.alloc (ak #[ag j,ag m] 163)=U:=⟨_,rfl⟩;obtain⟨BX,u⟩:∃b,C.heap.size=b:=⟨_,rfl⟩;rw[t] at N p⊢;rw[u] at p⊢;have O:=bf M N;have a4:W.heap.size<BX:=by have:=M.size;have:=dI B;omega
 have K2:=(O.block _ (dI B)).trans B;have w:=bf h O;clear R1 t M N O B u;have R2:=T U2 (HN.out.below w);go_upto_region 4 with(go_at_call 319;refine R2.mono ?_;rintro e D ⟨rfl,P⟩);have Q:=dR D (ak #[ag n,ag o] 163);have F:=dY D #[ag n,ag o] 163;obtain⟨U3,x⟩:∃U,D.alloc (ak #[ag n,ag o] 163)=U:=⟨_,rfl⟩;obtain⟨BY,y⟩:∃b,D.heap.size=b:=⟨_,rfl⟩;rw[x] at Q F⊢;rw[y] at F⊢;have d:=bf P Q;have a5:BX<BY:=by have:=P.size;have:=dI p;omega
 have g:=(d.block _ (dI K2)).trans K2;have z:=(d.block _ (dI p)).trans p;have f:=bf w d;clear R2 x P Q d K2 p y;have x0:=aQ z 0 _ rfl;have x1:=aQ z 1 _ rfl;have y0:=aQ F 0 _ rfl;have y1:=aQ F 1 _ rfl;have H:=aQ g 0 _ rfl;have I:=aQ g 1 _ rfl;have J:=aQ g 2 _ rfl;have K:=aQ g 3 _ rfl;have f0:=gI g 0;have f1:=gI g 1;have f2:=gI g 2;have f3:=gI g 3;clear R S T;rcases uj with⟨rfl,rfl⟩|⟨rfl,⟨a,rfl⟩,rfl⟩|⟨rfl,rfl,⟨a,rfl⟩,rfl⟩|⟨rfl,rfl,rfl,rfl⟩
 .go_wp2_with fail
  all_goals refine bg (v:=aH #[rT zQt,.bool false]) (by simp[results,results322,go_sem,H,I,J,K]) rfl ⟨rfl,?_⟩
  all_goals exact(((f.setCell az _).setCell az _).setCell az _).setCell az _
 .go_wp2_with fail
  all_goals refine bg (v:=aH #[rT zQt,.bool false]) (by simp[results,results322,go_sem,H,I,J,K]) rfl ⟨rfl,?_⟩
  all_goals exact(((f.setCell az _).setCell az _).setCell az _).setCell az _
 .go_wp2_with fail
  all_goals refine bg (v:=aH #[rT zQt,.bool false]) (by simp[results,results322,go_sem,H,I,J,K]) rfl ⟨rfl,?_⟩
  all_goals exact(((f.setCell az _).setCell az _).setCell az _).setCell az _
 .go_wp2_with fail
  all_goals refine bg (v:=aH #[rT ⟨j,m,n,o⟩,.bool true]) (by simp[results,results322,go_sem,H,I,J,K]) rfl ⟨rfl,?_⟩
  all_goals exact(((f.setCell az _).setCell az _).setCell az _).setCell az _
theorem Vd (l:Bs):(rd l).c=0\/(rd l).c=1\/(rd l).c=2\/(rd l).c=3:=by
 rcases Ho l with h|⟨h, -⟩
 .exact .inl h
 .exact .inr h
theorem Ka (l:NE E W)(s:aO)(hs:s.size<=1000):
  aL 322 #[au s] W λe w'=>RpR (ptM s.data.toList) e/\aD W w':=by
 unfold ptM;cases f:behind 44 s.data.toList with
 |none=>
  exact xu s s ⟨#[]⟩ false _ _ _ _ _ _ none (λV=>ZG s V f) (λV a=>FE a s aa) (λV a=>FE a ⟨#[]⟩ aC) (.inl ⟨rfl,rfl⟩) l
 |some b=>
  have g:behind 44 s.data.toList=some (⟨b.toArray⟩:aO).data.toList:=f;have h:ahead 44 s.data.toList=(⟨(ahead 44 s.data.toList).toArray⟩:aO).data.toList:=rfl;obtain⟨i, -,o,m,n⟩:=uL 44 _ _ f;have j:(⟨(ahead 44 s.data.toList).toArray⟩:aO).size<=1000000:=by
   show(ahead 44 s.data.toList).length<=1000000;rw[<- m,iR];have:s.data.toList.length=s.size:=rfl;omega
  have k:(⟨b.toArray⟩:aO).size<=1000000:=by
   show b.length<=1000000;rw[<- n,lC];have:s.data.toList.length=s.size:=rfl;omega
  refine xu s ⟨(ahead 44 s.data.toList).toArray⟩ ⟨b.toArray⟩ true _ _ _ _ _ _ _ (λV=>ZH s _ _ V g h aa) (λV a=>FE a _ j) (λV a=>FE a _ k) (.inr ?_) l;dsimp only;rcases Vd (ahead 44 s.data.toList) with c|c
  .rcases Vd b with d|d
   .exact .inr (.inr ⟨rfl,by rw[c,uZ],by rw[d,uZ],by rw[aR ⟨c,d⟩]⟩)
   .exact .inr (.inl ⟨rfl,by rw[c,uZ],⟨_,Cz d⟩,by rw[aG aa]⟩)
  .exact .inl ⟨rfl,⟨_,Cz c⟩,by rw[aG aa]⟩
end
end
theorem ZI {x:Int}(a: -1000<=x)(b:x<=1000):fV x 1=0:=by
 rw[gU];refine⟨aC,?_,aa,aC⟩;unfold ji;simp
