import Derived.Shelf.Spec.SlicesInsertGrow
import Derived.Test.YtbkjmamcnflncaaGreatDoorQs11
import Derived.Test.YtbkjmamcnflncaaGreatDoorQs7
import Derived.Test.YtbkjmamcnflncaaGreatDoorQs8
namespace Go.Proofs
open Go.Shelf
def Tryz.PG:Go.Shelf.Ren:=⟨λ|10=>100|6=>163|n=>n,λ|22=>35|23=>3|25=>153|3=>3|4=>4|0=>0|n=>n,λ|n=>n⟩
theorem Tryz.a6k:Go.Proofs.SlLaysH.n10 prog Tryz.PG:={
 mixed:=by kernel_rfl
 f6:=⟨Tryz.f163.name,by decide,func163.trans (congrArg some (by kernel_rfl))⟩
 f10:=⟨Tryz.f100.name,by decide,func100.trans (congrArg some (by kernel_rfl))⟩
 t0:=underlying0
 a0:=Tryz.isAgg0
 z0:=Tryz.sizeOf0
 v0:=Tryz.zeroValue0
 t3:=underlying3
 a3:=Tryz.isAgg3
 z3:=Tryz.sizeOf3
 v3:=Tryz.zeroValue3
 t4:=underlying4
 a4:=Tryz.isAgg4
 z4:=Tryz.sizeOf4
 v4:=Tryz.zeroValue4
 t22:=underlying35
 a22:=Tryz.isAgg35
 z22:=Tryz.sizeOf35
 v22:=Tryz.zeroValue35
 a23:=Tryz.isAgg3
 z23:=Tryz.sizeOf3
 t25:=underlying153
 a25:=Tryz.isAgg153
 z25:=Tryz.sizeOf153
 v25:=Tryz.zeroValue153}
def Tryz.uk:Go.Shelf.Ren:=⟨λ|21=>205|27=>272|28=>273|35=>331|39=>361|n=>n,λ|22=>35|3=>3|4=>4|0=>0|n=>n,λ|n=>n⟩
theorem Tryz.zZ:Go.Proofs.Lays2.n21 prog Tryz.uk:={
 mixed:=by kernel_rfl
 f21:=func205.trans (congrArg some (by kernel_rfl))
 f27:=func272.trans (congrArg some (by kernel_rfl))
 f28:=func273.trans (congrArg some (by kernel_rfl))
 f35:=func331.trans (congrArg some (by kernel_rfl))
 f39:=func361.trans (congrArg some (by kernel_rfl))
 t0:=underlying0
 a0:=Tryz.isAgg0
 z0:=Tryz.sizeOf0
 v0:=Tryz.zeroValue0
 t3:=underlying3
 a3:=Tryz.isAgg3
 z3:=Tryz.sizeOf3
 v3:=Tryz.zeroValue3
 t4:=underlying4
 a4:=Tryz.isAgg4
 z4:=Tryz.sizeOf4
 v4:=Tryz.zeroValue4
 t22:=underlying35
 a22:=Tryz.isAgg35
 z22:=Tryz.sizeOf35
 v22:=Tryz.zeroValue35
 i3:=by kernel_rfl}
end Go.Proofs
namespace Go.Proofs.YtbkjmamcnflncaaGreatDoor
open Go.Proofs.Tryz
set_option maxHeartbeats 2000000
section
open Go.RowKit
def a1G (W:ah)(a:List (Int×Int))(b:ah):Prop:=Below W.heap.size W b/\∃o k,b.heap[W.heap.size]? =some (.cells #[.slice o a.length k] 35)/\b.ownsRow (W.heap.size+1) 3 1 (.slice o a.length k) a.length (bO (a.map Prod.fst))
theorem gather (W:ah)(a:List (Int×Int))(n:ah)(i d:Int)(h:a1G W a n)(M:a.length<1000000):
  aJ 231 (#[ag i,ag d]++#[aI W.heap.size]) n λe w'=>e=.returned (.tuple #[])/\a1G W (a++[(i,d)]) w':=by
 obtain⟨f,o,k,q,r⟩:=h;obtain⟨D,s,t,v,w⟩:=info_parts zY;have E:=aO q 0 _ rfl;have m:=aY q;have l:=dI n (.cells #[ag i] 3);have F:=dN n #[ag i] 3;have H:=aA f;clear f;obtain⟨c,b⟩:∃c,W.heap.size=c:=⟨_,rfl⟩;rw[b] at q r E m⊢;show aJ 231 #[ag i,ag d,aI c] n _;go_enter func231,ntmps231;go_wp2_with(at_builtin;refine wpList_append_own_at _ rfl _ _ 35 rfl (c+1) 3 D (ag 0) 1 8 underlying35 s t v w rfl aC _ _ _ rfl (ig r _) ⟨n.heap.size,0,none⟩ 1 1 [ag i] rfl rfl (World.news_of_block F) (λu A=>by simp at A;rcases A with rfl;rfl) (by rw[dh];omega) aa aX ?_;intro N x y p _ O;obtain⟨B,C,rfl⟩:=bg y;have z:=(p.block c (dP m l.size) (own_ne r (Nat.lt_succ_self c))).trans ((l.block c m).trans q);have P:=aO z 0 _ rfl;have Q:=bq z);refine bodyPost_end (results_none rfl _ _ _) rfl ⟨rfl,?_,B,C,?_,?_⟩
 .have I:Below c W x:=by
   have f:=H.out;rw[b] at f;refine⟨p.os.trans (l.os.trans f.os),p.tape.trans (l.tape.trans f.tape),p.output.trans (l.output.trans f.output),bu f.size (bu l.size p.size),λj J=>?_⟩;exact(p.block j (by have:=l.size;omega) (own_ne r aa)).trans ((l.block j aa).trans (f.block j J))
  rw[b];exact I.setCell ay _
 .rw[b,heap_setCell_same x c 0 _ _ _ z];simp
 .rw[b];have:=di (w':=x.setCell ⟨c,0,none⟩ (.slice B (a.length+1) C)) y λg K=>bY _ _ _ g (λL=>by have:=(y.lt g K).1;simp only at L;omega);rw[iG,Bt,dJ];exact this
def dM (M:Dm)(f:Nat)(n:Int):List Int:=(pre M f n 1).map Prod.fst
theorem qD {B:Nat}{v:dm}{W:ah}{DB w:Nat}{p:Int->Option Nat}{M:Dm}{nx c:Nat}(r:bT B v W DB w p M nx c)(f:Nat)(n:Int)(A:f<=900000)(hp:Dp M f n)(x:dV n)(j:(dM M f n).length<=1000000):
  aJ 164 #[aI DB,ag n] W λe w'=>∃o k,e=.returned (.slice o (dM M f n).length k)/\Below W.heap.size W w'/\w'.ownsRow (W.heap.size+1) 3 1 (.slice o (dM M f n).length k) (dM M f n).length (bO (dM M f n)):=by
 have s:=BA r _ (rT _ _ func231 az az) #[aI W.heap.size] (a1G W) (λa u h=>⟨λb t y=>h.1.block b (r.low b t y).2,h.1.size⟩) (λa u i d h j=>gather W a u i d h j) f n 1 [] (W.alloc (.cells #[.slice none 0 0] 35)) hp x aC aa (by rw[iO];unfold dM at j;rw[dF] at j;omega) ⟨dI W _,none,0,dN W _ _,gp _ _ _ _⟩;rw[gF] at s;have g:(dM M f n).length=(pre M f n 1).length:=dF ..;go_enter func164,ntmps164;go_wp2_with(go_at_call 230;refine s.mono ?_;rintro e C ⟨rfl,z⟩;obtain⟨l,o,k,m,q⟩:=z;have D:=aO m 0 _ rfl);go_ret;exact⟨o,k,by rw[g];rfl,l,by rw[g];exact q⟩
theorem yf (n x:Int)(PN:Nat)(W:ah)(hc:W.cell? (aH PN 0)=some (ag n)):FnGives prog 274 #[aI PN] #[ag x] (.bool (decide (x=n))) W:=by
 show aJ 274 #[ag x,aI PN] W _;go_enter func274,ntmps274;go_wp2
 all_goals(go_ret;exact⟨by first|(simp_all;done)|(simp_all;rfl),0,rfl⟩)
theorem Yu {w:ah}{a:Nat}{b:Array au}{t:TypeId}(enc:Int->au)(d:Array Int)(h:w.heap[a]? =some (.cells b t)):(Sort.putRow enc w a 0 d).heap[a]? =some (.cells (Sort.putCells enc 0 d b) t):=by
 simp[Sort.putRow,Sort.mapBlock,Array.getElem?_modify,h,Sort.onCells]
theorem TJ {w:ah}{a x:Nat}(enc:Int->au)(d:Array Int)(h:x≠a):(Sort.putRow enc w a 0 d).heap[x]? =w.heap[x]? :=by
 simp[Sort.putRow,Sort.mapBlock,Array.getElem?_modify,Ne.symm h]
theorem Jf (F R:List Int)(a:Array au)(h:F.length<=a.size):(Sort.putCells (Value.int .i64) 0 (F++R).toArray a).toList.take F.length=bO F:=by
 apply List.ext_getElem?;intro k;rw[AV];unfold bO;rw[iN];split
 .rename_i b;have c:k<a.size:=aa;rw[a0v];unfold Sort.putCells;grind
 .rename_i b;grind
theorem aj7 {B:Nat}{W:ah}{v:au}{L:List Int}{n:Int}{PN:Nat}(h:W.ownsRow B 3 1 v L.length (bO L))(I:L≠[])(hc:W.cell? (aH PN 0)=some (ag n))(hne:v.ownBlock≠some PN):
    aJ 100 #[v,.func (.func 274) #[] #[aI PN]] W λe w'=>∃o k,e=.returned (.slice o (L.filter (λx=> !decide (x=n))).length k)/\w'.ownsRow B 3 1 (.slice o (L.filter (λx=> !decide (x=n))).length k) (L.filter (λx=> !decide (x=n))).length (bO (L.filter (λx=> !decide (x=n))))/\(Value.slice o (L.filter (λx=> !decide (x=n))).length k).ownBlock=v.ownBlock/\W.grownBy w' v.ownBlock:=by
  have t:=Wm h;obtain⟨J,i⟩:=h;rcases i with⟨-,i⟩|⟨g,a,b,rfl,u,c,y,z,K,M⟩
  . grind
  have d:g≠PN:=λe=>hne (by rw[e];rfl);have A:Sort.Holds (Value.int .i64) W g 0 L.toArray:=λj N=>by
    have f:j<L.length:=aa;refine⟨?_,bq c _⟩;rw[fZ];refine aO c j _ ?_;have l:(bO L)[j]? =some (ag L[j]):=pQ (eZ f);grind
  have p:=AnyE.slices_DeleteFunc Tryz.a6k (Value.int .i64) (λ_=>rfl) (λx=>decide (x=n)) 274 #[aI PN] (λr w=>az) 0 (λw=>Tryz.zeroValue3 w) g 0 a L.toArray W
    (λC x D=>yf n x PN C ((D.cell (aK hc)).trans hc))
    (λm O P x _=>yf n x PN _ (by
      unfold sortWorld;rw[Sort.cell?_grow _ _ _ (by show PN<(Sort.putRow _ _ _ _ _).heap.size;rw[Sort.size_putRow];exact aK hc),Sort.cell?_putRow_other _ _ g 0 _ _ (Or.inl (λe=>d e.symm))];exact hc)) A (by simpa using t) (by simpa using y)
  have E:L.toArray.size=L.length:=aG;rw[E] at p;refine p.mono λe w' ⟨F,q,s⟩=>?_;have hF:(L.filter (λx=> !decide (x=n))).length<=L.length:=by grind
  refine⟨some ⟨g,0,none⟩,a,F,?_,rfl,?_⟩
  . rw[s]
    refine⟨by rw[pO,Nat.mul_one],.inr ⟨g,a,_,rfl,u,Yu (w:=Sort.ahead W q) _ _ c,aa,z,?_,?_⟩⟩
    . unfold Sort.putCells
      grind
    . rw[Nat.mul_one]
      exact Jf _ _ b aa
  . rw[s]
    exact⟨rfl,rfl,rfl,by rw[Sort.size_putRow];exact Nat.le_refl _,λx _ l=>TJ _ _ (λH=>l (by rw[H];rfl))⟩
end
section
open Go
def Jg:Bs:=[98,111,120]
def yg:Bs:=[112,111,108,121]
def rA:Bs:=[103,114,111,117,112]
def PK:Bs:=[117,115,101]
def kNo:Bs:=[110,111]
def yh:Bs:=[110,111,110,101]
def qV:Bs:=[109,111,118,101]
def A8:Bs:=[112,111,105,110,116,115]
def kOf:Bs:=[111,102]
def kId:Bs:=[105,100]
structure Pc where
 nd:Int
 pts:List Qt
 fill:Bs
 rule:Bs
 lv:Int
structure Ft where
 code:Nat
 pl:Int
def J4 (M:Dm)(n:Int):Bs:=match M n with|none=>[]|some e=>e.name
def Mg (M:Dm)(n:Int)(nm:Bs):Bs:=(DU M n nm).getD []
def A9 (M:Dm)(n:Int)(m:Mv):Except Nat Mv:=
 if(lq ⟨(Mg M n qV).toArray⟩).2≠0 then .error (lq ⟨(Mg M n qV).toArray⟩).2 else if(thenS (lq ⟨(Mg M n qV).toArray⟩).1 m).2=0 then .ok (thenS (lq ⟨(Mg M n qV).toArray⟩).1 m).1 else .error 2
def iy (M:Dm)(n:Int)(nm:Bs):R3:=match DU M n nm with|none=>⟨0,1,0⟩|some s=>rd s
def okB (l:List Qt):Bool:=decide (l.length<=30) && l.all (λy=>jQ y==0)
def um (x y w h:R3):Except Nat (List Qt):=
 if(add x.n x.d w.n w.d).c=0/\(add y.n y.d h.n h.d).c=0/\okB (Tx x.n x.d y.n y.d (add x.n x.d w.n w.d).n (add x.n x.d w.n w.d).d (add y.n y.d h.n h.d).n (add y.n y.d h.n h.d).d)=true
 then .ok (Tx x.n x.d y.n y.d (add x.n x.d w.n w.d).n (add x.n x.d w.n w.d).d (add y.n y.d h.n h.d).n (add y.n y.d h.n h.d).d) else .error 2
def a1H (M:Dm)(n:Int):Except Nat (List Qt):=
 if(iy M n [120]).c≠0 then .error (iy M n [120]).c else if(iy M n [121]).c≠0 then .error (iy M n [121]).c else if(iy M n [119]).c≠0 then .error (iy M n [119]).c else if(iy M n [104]).c≠0 then .error (iy M n [104]).c
 else um (iy M n [120]) (iy M n [121]) (iy M n [119]) (iy M n [104])
def ptM (w:Bs):Option Qt:=match behind 44 w with
 |none=>none
 |some b=>if(rd (ahead 44 w)).c=0/\(rd b).c=0 then some ⟨(rd (ahead 44 w)).n,(rd (ahead 44 w)).d,(rd b).n,(rd b).d⟩ else none
def Gd (s:Bs):Except Nat (List Qt):=
 if s=[] then .ok [] else match(words ⟨s.toArray⟩).mapM (λw=>ptM w.toList) with
 |none=>.error 1
 |some l=>if okB l then .ok l else .error 2
def Kj (M:Dm)(n:Int):Except Nat (List Qt):=Gd (Mg M n A8)
def Mh (m:Mv)(a:Qt):Qt:=⟨(fe 0 m ⟨⟨a.xn,a.xd⟩,⟨a.yn,a.yd⟩⟩).1.x.n,(fe 0 m ⟨⟨a.xn,a.xd⟩,⟨a.yn,a.yd⟩⟩).1.x.d,(fe 0 m ⟨⟨a.xn,a.xd⟩,⟨a.yn,a.yd⟩⟩).1.y.n,(fe 0 m ⟨⟨a.xn,a.xd⟩,⟨a.yn,a.yd⟩⟩).1.y.d⟩
def BB (m:Mv)(a:Qt):Bool:=decide ((fe 0 m ⟨⟨a.xn,a.xd⟩,⟨a.yn,a.yd⟩⟩).2=0) && (mX (Mh m a)==0)
def goM (m:Mv)(l:List Qt):Option (List Qt):=if l.all (BB m) then some (l.map (Mh m)) else none
def J5 (s:Bs):Int:=match Lib.atoiAll s with
 | .ok v=>if 0<=v/\v<=999/\Lib.itoa v=s then v else 0
 |_=>0
def vW (c:Nat):Nat:=if c=2 then 2 else 10
def allM (M:Dm):List Int:=dM M 11 0
def Mi (M:Dm)(n:Int):Option Int:=match DU M n kOf with
 |none=>none
 |some v=>(allM M).find? (λk=>DU M k kId==some v)
def jR (M:Dm)(l:List Rl)(n:Int)(m:Mv)(x:Except Nat (List Qt))(st:Nat×List Pc):Except Ft (Nat×List Pc):=match x with
 | .error c=>.error ⟨vW c,n⟩
 | .ok q=>match goM m q with
  |none=>.error ⟨2,n⟩
  |some a=>if ofM M l vD n=yh then .ok st else .ok (st.1,st.2++[⟨n,a,ofM M l vD n,ofM M l xR n,J5 (ofM M l tK n)⟩])
def rC (s:Bs):Bool:=s==Jg||s==yg||s==rA||s==PK
def vX (M:Dm)(l:List Rl)(n:Int):Bool:=rC (J4 M n) && !(ofM M l zB n==kNo)
def fK (M:Dm)(l:List Rl):Nat->Int->List Int->Mv->Nat×List Pc->Except Ft (Nat×List Pc)
 |0,n,path,_,_=>if n∈path then .error ⟨9,n⟩ else .error ⟨7,n⟩
 |f+1,n,path,m,st=>
  if n∈path then .error ⟨9,n⟩ else if 100<=st.1 then .error ⟨7,n⟩ else
  if vX M l n=false then .ok (st.1+1,st.2) else
  match A9 M n m with
  | .error c=>.error ⟨vW c,n⟩
  | .ok a=>
   if J4 M n=Jg then jR M l n a (a1H M n) (st.1+1,st.2) else
   if J4 M n=yg then jR M l n a (Kj M n) (st.1+1,st.2) else
   if J4 M n=rA then(Wn M n).foldlM (λs k=>fK M l f k (n::path) a s) (st.1+1,st.2) else
   match Mi M n with
   |none=>.error ⟨10,n⟩
   |some k=>fK M l f k (n::path) a (st.1+1,st.2)
where Wn (M:Dm) (n:Int):List Int:=match M n with|none=>[]|some e=>e.kids
def yj (l:List Pc):List Pc:=(List.range 1000).flatMap (λ(k:Nat)=>l.filter (λx=>x.lv==(k:Int)))
def eH (M:Dm)(l:List Rl):Except Ft (List Pc):=match fK M l 101 0 [-1] .one (0,[]) with
 | .error e=>.error e
 | .ok st=>.ok (yj st.2)
end
def aj9 (l:List Pc):Prop:=∀x∈l,x.pts.length<=30
theorem Wo {l:List Qt}(h:okB l=true):l.length<=30:=by
 unfold okB at h;grind
theorem a6m {m:Mv}{q a:List Qt}(h:goM m q=some a):a.length=q.length:=by
 unfold goM at h;grind
theorem a6n {M:Dm}{n:Int}{q:List Qt}(h:a1H M n=.ok q):q.length<=30:=by
 unfold a1H um at h
 repeat' split at h
 all_goals try cases h
 next a=>exact Wo a.2.2
theorem a1I {M:Dm}{n:Int}{q:List Qt}(h:Kj M n=.ok q):q.length<=30:=by
 unfold Kj Gd at h
 repeat' split at h
 all_goals try cases h
 .grind
 .next a=>exact Wo a
theorem PR {a:Type}{Q:Nat×List Pc->Prop}(g:Nat×List Pc->a->Except Ft (Nat×List Pc))(f:∀s x b,g s x=.ok b->Q s->Q b):∀(l:List a) (s b:Nat×List Pc),l.foldlM g s=.ok b->Q s->Q b
 |[],s,b,h,c=>by cases h;exact c
 |x::l,s,b,h,c=>by
  rw[List.foldlM_cons] at h;cases d:g s x with
  |error e=>rw[d] at h;cases h
  |ok t=>
   rw[d] at h;exact PR g f l t b h (f s x t d c)
theorem Gf {M:Dm}{l:List Rl}{R:Pc->Prop}(d:∀n q,vX M l n=true->q.length<=30->R ⟨n,q,ofM M l vD n,ofM M l xR n,J5 (ofM M l tK n)⟩):∀(f:Nat) (n:Int) (path:List Int) (m:Mv) (st a:Nat×List Pc),fK M l f n path m st=.ok a->(∀x∈st.2,R x)->∀x∈a.2,R x
 |0,n,path,m,st,a,h,_=>by
  unfold fK at h;grind
 |f+1,n,path,m,st,a,h,e=>by
  unfold fK at h;split at h
  .cases h
  split at h
  .cases h
  split at h
  .grind
  next g=>
  have i:∀(j:Mv) (x:Except Nat (List Qt)),(∀q,x=.ok q->q.length<=30)->jR M l n j x (st.1+1,st.2)=.ok a->∀x∈a.2,R x:=λj x k h=>by
   unfold jR at h;split at h
   .cases h
   .next q=>
    split at h
    .cases h
    .next o c=>
     split at h
     .grind
     .cases h;intro y b;rcases gT.1 b with b|b
      .exact e y b
      .simp at b;subst b;exact d n o (by simpa using g) (by rw[a6m c];exact k q rfl)
  split at h
  .cases h
  .split at h
   .exact i _ _ (λq c=>a6n c) h
   .split at h
    .exact i _ _ (λq c=>a1I c) h
    .split at h
     .exact PR (Q:=λs=>∀x∈s.2,R x) _ (λs x a h=>Gf d f x _ _ s a h) _ (st.1+1,st.2) a h e
     .split at h
      .cases h
      .exact Gf d f _ _ _ (st.1+1,st.2) a h e
theorem Gg {M:Dm}{rl:List Rl}{l:List Pc}{R:Pc->Prop}(hp:eH M rl=.ok l)(c:∀n q,vX M rl n=true->q.length<=30->R ⟨n,q,ofM M rl vD n,ofM M rl xR n,J5 (ofM M rl tK n)⟩):∀x∈l,R x:=by
 unfold eH at hp;cases b:fK M rl 101 0 [-1] .one (0,[]) with
 |error e=>rw[b] at hp;cases hp
 |ok st=>
  rw[b] at hp;have d:=Except.ok.inj hp;rw[<- d];intro x a;unfold yj at a;obtain⟨k, -,f⟩:=List.mem_flatMap.1 a;exact Gf c 101 0 [-1] .one (0,[]) st b (λx a=>by cases a) x (lU.1 f).1
theorem Yv {M:Dm}{rl:List Rl}{l:List Pc}(hp:eH M rl=.ok l):aj9 l:=Gg hp λ_ _ _ h=>h
