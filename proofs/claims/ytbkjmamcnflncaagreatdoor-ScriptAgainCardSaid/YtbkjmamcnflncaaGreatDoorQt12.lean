import Derived.Shelf.Spec.SlicesInsertGrow
import Derived.Test.YtbkjmamcnflncaaGreatDoorQt11
import Derived.Test.YtbkjmamcnflncaaGreatDoorQt7
import Derived.Test.YtbkjmamcnflncaaGreatDoorQt8
namespace Go.Proofs
open Go.Shelf
def Tryz.Qx:Go.Shelf.Ren:=⟨λ|10=>100|6=>163|n=>n,λ|22=>35|23=>3|25=>153|3=>3|4=>4|0=>0|n=>n,λ|n=>n⟩
theorem Tryz.a7c:Go.Proofs.SlLaysH.n10 prog Tryz.Qx:={
 mixed:=by kernel_rfl
 f6:=⟨Tryz.f163.name,by decide,func163.trans (congrArg some (by kernel_rfl))⟩
 f10:=⟨Tryz.f100.name,by decide,func100.trans (congrArg some (by kernel_rfl))⟩
 t0:=underlying0
 a0:=Tryz.isAgg0
 z0:=Tryz.sizeOf0
 v0:=Tryz.zeroValue0
 t3:=underlying3
 a3:=Tryz.isAgg3
 z3:=Tryz.sizeOf3
 v3:=Tryz.zeroValue3
 t4:=underlying4
 a4:=Tryz.isAgg4
 z4:=Tryz.sizeOf4
 v4:=Tryz.zeroValue4
 t22:=underlying35
 a22:=Tryz.isAgg35
 z22:=Tryz.sizeOf35
 v22:=Tryz.zeroValue35
 a23:=Tryz.isAgg3
 z23:=Tryz.sizeOf3
 t25:=underlying153
 a25:=Tryz.isAgg153
 z25:=Tryz.sizeOf153
 v25:=Tryz.zeroValue153}
def Tryz.uR:Go.Shelf.Ren:=⟨λ|21=>205|27=>272|28=>273|35=>331|39=>361|n=>n,λ|22=>35|3=>3|4=>4|0=>0|n=>n,λ|n=>n⟩
theorem Tryz.AJ:Go.Proofs.Lays2.n21 prog Tryz.uR:={
 mixed:=by kernel_rfl
 f21:=func205.trans (congrArg some (by kernel_rfl))
 f27:=func272.trans (congrArg some (by kernel_rfl))
 f28:=func273.trans (congrArg some (by kernel_rfl))
 f35:=func331.trans (congrArg some (by kernel_rfl))
 f39:=func361.trans (congrArg some (by kernel_rfl))
 t0:=underlying0
 a0:=Tryz.isAgg0
 z0:=Tryz.sizeOf0
 v0:=Tryz.zeroValue0
 t3:=underlying3
 a3:=Tryz.isAgg3
 z3:=Tryz.sizeOf3
 v3:=Tryz.zeroValue3
 t4:=underlying4
 a4:=Tryz.isAgg4
 z4:=Tryz.sizeOf4
 v4:=Tryz.zeroValue4
 t22:=underlying35
 a22:=Tryz.isAgg35
 z22:=Tryz.sizeOf35
 v22:=Tryz.zeroValue35
 i3:=by kernel_rfl}
end Go.Proofs
namespace Go.Proofs.YtbkjmamcnflncaaGreatDoor
open Go.Proofs.Tryz
set_option maxHeartbeats 2000000
section
open Go.RowKit
def a2u (W:ai)(a:List (Int×Int))(b:ai):Prop:=Below W.heap.size W b/\∃o k,b.heap[W.heap.size]? =some (.cells #[.slice o a.length k] 35)/\b.ownsRow (W.heap.size+1) 3 1 (.slice o a.length k) a.length (di (a.map Prod.fst))
theorem gather (W:ai)(a:List (Int×Int))(n:ai)(i d:Int)(h:a2u W a n)(M:a.length<1000000):
  aL 231 (#[ag i,ag d]++#[aK W.heap.size]) n λe w'=>e=.returned (.tuple #[])/\a2u W (a++[(i,d)]) w':=by
 obtain⟨f,o,k,q,r⟩:=h;obtain⟨D,s,t,v,w⟩:=info_parts AB;have E:=aQ q 0 _ rfl;have m:=bu q;have l:=dR n (.cells #[ag i] 3);have F:=dY n #[ag i] 3;have H:=aF f;clear f;obtain⟨c,b⟩:∃c,W.heap.size=c:=⟨_,rfl⟩;rw[b] at q r E m⊢;show aL 231 #[ag i,ag d,aK c] n _;go_enter func231,ntmps231;go_wp2_with(at_builtin;refine wpList_append_own_at _ rfl _ _ 35 rfl (c+1) 3 D (ag 0) 1 8 underlying35 s t v w rfl aC _ _ _ rfl (iF r _) ⟨n.heap.size,0,none⟩ 1 1 [ag i] rfl rfl (World.news_of_block F) (λu A=>by simp at A;rcases A with rfl;rfl) (by rw[dD];omega) aa bq ?_;intro N x y p _ O;obtain⟨B,C,rfl⟩:=bD y;have z:=(p.block c (fK m l.size) (own_ne r (Nat.lt_succ_self c))).trans ((l.block c m).trans q);have P:=aQ z 0 _ rfl;have Q:=bG z);refine bodyPost_end (results_none rfl _ _ _) rfl ⟨rfl,?_,B,C,?_,?_⟩
 .have I:Below c W x:=by
   have f:=H.out;rw[b] at f;refine⟨p.os.trans (l.os.trans f.os),p.tape.trans (l.tape.trans f.tape),p.output.trans (l.output.trans f.output),bO f.size (bO l.size p.size),λj J=>?_⟩;exact(p.block j (by have:=l.size;omega) (own_ne r aa)).trans ((l.block j aa).trans (f.block j J))
  rw[b];exact I.setCell az _
 .rw[b,heap_setCell_same x c 0 _ _ _ z];simp
 .rw[b];have:=dF (w':=x.setCell ⟨c,0,none⟩ (.slice B (a.length+1) C)) y λg K=>dw _ _ _ g (λL=>by have:=(y.lt g K).1;simp only at L;omega);rw[iK,Cn,dO];exact this
def dZ (M:Dm)(f:Nat)(n:Int):List Int:=(pre M f n 1).map Prod.fst
theorem qZ {B:Nat}{v:dG}{W:ai}{DB w:Nat}{p:Int->Option Nat}{M:Dm}{nx c:Nat}(r:dm B v W DB w p M nx c)(f:Nat)(n:Int)(A:f<=900000)(hp:Dp M f n)(x:eH n)(j:(dZ M f n).length<=1000000):
  aL 164 #[aK DB,ag n] W λe w'=>∃o k,e=.returned (.slice o (dZ M f n).length k)/\Below W.heap.size W w'/\w'.ownsRow (W.heap.size+1) 3 1 (.slice o (dZ M f n).length k) (dZ M f n).length (di (dZ M f n)):=by
 have s:=Cs r _ (tH _ _ func231 aA aA) #[aK W.heap.size] (a2u W) (λa u h=>⟨λb t y=>h.1.block b (r.low b t y).2,h.1.size⟩) (λa u i d h j=>gather W a u i d h j) f n 1 [] (W.alloc (.cells #[.slice none 0 0] 35)) hp x aC aa (by rw[iT];unfold dZ at j;rw[dP] at j;omega) ⟨dR W _,none,0,dY W _ _,gp _ _ _ _⟩;rw[gK] at s;have g:(dZ M f n).length=(pre M f n 1).length:=dP ..;go_enter func164,ntmps164;go_wp2_with(go_at_call 230;refine s.mono ?_;rintro e C ⟨rfl,z⟩;obtain⟨l,o,k,m,q⟩:=z;have D:=aQ m 0 _ rfl);go_ret;exact⟨o,k,by rw[g];rfl,l,by rw[g];exact q⟩
theorem yQ (n x:Int)(PN:Nat)(W:ai)(hc:W.cell? (aJ PN 0)=some (ag n)):FnGives prog 274 #[aK PN] #[ag x] (.bool (decide (x=n))) W:=by
 show aL 274 #[ag x,aK PN] W _;go_enter func274,ntmps274;go_wp2
 all_goals(go_ret;exact⟨by first|(simp_all;done)|(simp_all;rfl),0,rfl⟩)
theorem Z8 {w:ai}{a:Nat}{b:Array ax}{t:TypeId}(enc:Int->ax)(d:Array Int)(h:w.heap[a]? =some (.cells b t)):(Sort.putRow enc w a 0 d).heap[a]? =some (.cells (Sort.putCells enc 0 d b) t):=by
 simp[Sort.putRow,Sort.mapBlock,Array.getElem?_modify,h,Sort.onCells]
theorem Ut {w:ai}{a x:Nat}(enc:Int->ax)(d:Array Int)(h:x≠a):(Sort.putRow enc w a 0 d).heap[x]? =w.heap[x]? :=by
 simp[Sort.putRow,Sort.mapBlock,Array.getElem?_modify,Ne.symm h]
theorem JP (F R:List Int)(a:Array ax)(h:F.length<=a.size):(Sort.putCells (Value.int .i64) 0 (F++R).toArray a).toList.take F.length=di F:=by
 apply List.ext_getElem?;intro k;rw[zg];unfold di;rw[jv];split
 .rename_i b;have c:k<a.size:=aa;rw[a1e];unfold Sort.putCells;grind
 .rename_i b;grind
theorem ajP {B:Nat}{W:ai}{v:ax}{L:List Int}{n:Int}{PN:Nat}(h:W.ownsRow B 3 1 v L.length (di L))(I:L≠[])(hc:W.cell? (aJ PN 0)=some (ag n))(hne:v.ownBlock≠some PN):
    aL 100 #[v,.func (.func 274) #[] #[aK PN]] W λe w'=>∃o k,e=.returned (.slice o (L.filter (λx=> !decide (x=n))).length k)/\w'.ownsRow B 3 1 (.slice o (L.filter (λx=> !decide (x=n))).length k) (L.filter (λx=> !decide (x=n))).length (di (L.filter (λx=> !decide (x=n))))/\(Value.slice o (L.filter (λx=> !decide (x=n))).length k).ownBlock=v.ownBlock/\W.grownBy w' v.ownBlock:=by
  have t:=Xg h;obtain⟨J,i⟩:=h;rcases i with⟨-,i⟩|⟨g,a,b,rfl,u,c,y,z,K,M⟩
  . grind
  have d:g≠PN:=λe=>hne (by rw[e];rfl);have A:Sort.Holds (Value.int .i64) W g 0 L.toArray:=λj N=>by
    have f:j<L.length:=aa;refine⟨?_,bG c _⟩;rw[gq];refine aQ c j _ ?_;have l:(di L)[j]? =some (ag L[j]):=qH (fD f);grind
  have p:=AnyE.slices_DeleteFunc Tryz.a7c (Value.int .i64) (λ_=>rfl) (λx=>decide (x=n)) 274 #[aK PN] (λr w=>aA) 0 (λw=>Tryz.zeroValue3 w) g 0 a L.toArray W
    (λC x D=>yQ n x PN C ((D.cell (aM hc)).trans hc))
    (λm O P x _=>yQ n x PN _ (by
      unfold sortWorld;rw[Sort.cell?_grow _ _ _ (by show PN<(Sort.putRow _ _ _ _ _).heap.size;rw[Sort.size_putRow];exact aM hc),Sort.cell?_putRow_other _ _ g 0 _ _ (Or.inl (λe=>d e.symm))];exact hc)) A (by simpa using t) (by simpa using y)
  have E:L.toArray.size=L.length:=aI;rw[E] at p;refine p.mono λe w' ⟨F,q,s⟩=>?_;have hF:(L.filter (λx=> !decide (x=n))).length<=L.length:=by grind
  refine⟨some ⟨g,0,none⟩,a,F,?_,rfl,?_⟩
  . rw[s]
    refine⟨by rw[qG,Nat.mul_one],.inr ⟨g,a,_,rfl,u,Z8 (w:=Sort.ahead W q) _ _ c,aa,z,?_,?_⟩⟩
    . unfold Sort.putCells
      grind
    . rw[Nat.mul_one]
      exact JP _ _ b aa
  . rw[s]
    exact⟨rfl,rfl,rfl,by rw[Sort.size_putRow];exact bJ _,λx _ l=>Ut _ _ (λH=>l (by rw[H];rfl))⟩
end
section
open Go
def JQ:Bs:=[98,111,120]
def yR:Bs:=[112,111,108,121]
def sH:Bs:=[103,114,111,117,112]
def Qy:Bs:=[117,115,101]
def kNo:Bs:=[110,111]
def yS:Bs:=[110,111,110,101]
def rV:Bs:=[109,111,118,101]
def AV:Bs:=[112,111,105,110,116,115]
def kOf:Bs:=[111,102]
def kId:Bs:=[105,100]
structure Pc where
 nd:Int
 pts:List Qt
 fill:Bs
 rule:Bs
 lv:Int
structure Ft where
 code:Nat
 pl:Int
def JD (M:Dm)(n:Int):Bs:=match M n with|none=>[]|some e=>e.name
def Nc (M:Dm)(n:Int)(nm:Bs):Bs:=(EI M n nm).getD []
def AZ (M:Dm)(n:Int)(m:Mv):Except Nat Mv:=
 if(lS ⟨(Nc M n rV).toArray⟩).2≠0 then .error (lS ⟨(Nc M n rV).toArray⟩).2 else if(thenS (lS ⟨(Nc M n rV).toArray⟩).1 m).2=0 then .ok (thenS (lS ⟨(Nc M n rV).toArray⟩).1 m).1 else .error 2
def iI (M:Dm)(n:Int)(nm:Bs):R3:=match EI M n nm with|none=>⟨0,1,0⟩|some s=>rd s
def okB (l:List Qt):Bool:=decide (l.length<=30) && l.all (λy=>jZ y==0)
def uS (x y w h:R3):Except Nat (List Qt):=
 if(add x.n x.d w.n w.d).c=0/\(add y.n y.d h.n h.d).c=0/\okB (Ul x.n x.d y.n y.d (add x.n x.d w.n w.d).n (add x.n x.d w.n w.d).d (add y.n y.d h.n h.d).n (add y.n y.d h.n h.d).d)=true
 then .ok (Ul x.n x.d y.n y.d (add x.n x.d w.n w.d).n (add x.n x.d w.n w.d).d (add y.n y.d h.n h.d).n (add y.n y.d h.n h.d).d) else .error 2
def a2v (M:Dm)(n:Int):Except Nat (List Qt):=
 if(iI M n [120]).c≠0 then .error (iI M n [120]).c else if(iI M n [121]).c≠0 then .error (iI M n [121]).c else if(iI M n [119]).c≠0 then .error (iI M n [119]).c else if(iI M n [104]).c≠0 then .error (iI M n [104]).c
 else uS (iI M n [120]) (iI M n [121]) (iI M n [119]) (iI M n [104])
def ptM (w:Bs):Option Qt:=match behind 44 w with
 |none=>none
 |some b=>if(rd (ahead 44 w)).c=0/\(rd b).c=0 then some ⟨(rd (ahead 44 w)).n,(rd (ahead 44 w)).d,(rd b).n,(rd b).d⟩ else none
def GV (s:Bs):Except Nat (List Qt):=
 if s=[] then .ok [] else match(words ⟨s.toArray⟩).mapM (λw=>ptM w.toList) with
 |none=>.error 1
 |some l=>if okB l then .ok l else .error 2
def Lj (M:Dm)(n:Int):Except Nat (List Qt):=GV (Nc M n AV)
def Nf (m:Mv)(a:Qt):Qt:=⟨(fH 0 m ⟨⟨a.xn,a.xd⟩,⟨a.yn,a.yd⟩⟩).1.x.n,(fH 0 m ⟨⟨a.xn,a.xd⟩,⟨a.yn,a.yd⟩⟩).1.x.d,(fH 0 m ⟨⟨a.xn,a.xd⟩,⟨a.yn,a.yd⟩⟩).1.y.n,(fH 0 m ⟨⟨a.xn,a.xd⟩,⟨a.yn,a.yd⟩⟩).1.y.d⟩
def Ct (m:Mv)(a:Qt):Bool:=decide ((fH 0 m ⟨⟨a.xn,a.xd⟩,⟨a.yn,a.yd⟩⟩).2=0) && (nI (Nf m a)==0)
def goM (m:Mv)(l:List Qt):Option (List Qt):=if l.all (Ct m) then some (l.map (Nf m)) else none
def JE (s:Bs):Int:=match Lib.atoiAll s with
 | .ok v=>if 0<=v/\v<=999/\Lib.itoa v=s then v else 0
 |_=>0
def wU (c:Nat):Nat:=if c=2 then 2 else 10
def allM (M:Dm):List Int:=dZ M 11 0
def Ng (M:Dm)(n:Int):Option Int:=match EI M n kOf with
 |none=>none
 |some v=>(allM M).find? (λk=>EI M k kId==some v)
def kg (M:Dm)(l:List Rl)(n:Int)(m:Mv)(x:Except Nat (List Qt))(st:Nat×List Pc):Except Ft (Nat×List Pc):=match x with
 | .error c=>.error ⟨wU c,n⟩
 | .ok q=>match goM m q with
  |none=>.error ⟨2,n⟩
  |some a=>if ofM M l wD n=yS then .ok st else .ok (st.1,st.2++[⟨n,a,ofM M l wD n,ofM M l yG n,JE (ofM M l uH n)⟩])
def sI (s:Bs):Bool:=s==JQ||s==yR||s==sH||s==Qy
def wV (M:Dm)(l:List Rl)(n:Int):Bool:=sI (JD M n) && !(ofM M l Ad n==kNo)
def gu (M:Dm)(l:List Rl):Nat->Int->List Int->Mv->Nat×List Pc->Except Ft (Nat×List Pc)
 |0,n,path,_,_=>if n∈path then .error ⟨9,n⟩ else .error ⟨7,n⟩
 |f+1,n,path,m,st=>
  if n∈path then .error ⟨9,n⟩ else if 100<=st.1 then .error ⟨7,n⟩ else
  if wV M l n=false then .ok (st.1+1,st.2) else
  match AZ M n m with
  | .error c=>.error ⟨wU c,n⟩
  | .ok a=>
   if JD M n=JQ then kg M l n a (a2v M n) (st.1+1,st.2) else
   if JD M n=yR then kg M l n a (Lj M n) (st.1+1,st.2) else
   if JD M n=sH then(Xh M n).foldlM (λs k=>gu M l f k (n::path) a s) (st.1+1,st.2) else
   match Ng M n with
   |none=>.error ⟨10,n⟩
   |some k=>gu M l f k (n::path) a (st.1+1,st.2)
where Xh (M:Dm) (n:Int):List Int:=match M n with|none=>[]|some e=>e.kids
def yU (l:List Pc):List Pc:=(List.range 1000).flatMap (λ(k:Nat)=>l.filter (λx=>x.lv==(k:Int)))
def fC (M:Dm)(l:List Rl):Except Ft (List Pc):=match gu M l 101 0 [-1] .one (0,[]) with
 | .error e=>.error e
 | .ok st=>.ok (yU st.2)
end
def ajR (l:List Pc):Prop:=∀x∈l,x.pts.length<=30
theorem Xi {l:List Qt}(h:okB l=true):l.length<=30:=by
 unfold okB at h;grind
theorem a7e {m:Mv}{q a:List Qt}(h:goM m q=some a):a.length=q.length:=by
 unfold goM at h;grind
theorem a7f {M:Dm}{n:Int}{q:List Qt}(h:a2v M n=.ok q):q.length<=30:=by
 unfold a2v uS at h
 repeat' split at h
 all_goals try cases h
 next a=>exact Xi a.2.2
theorem a2w {M:Dm}{n:Int}{q:List Qt}(h:Lj M n=.ok q):q.length<=30:=by
 unfold Lj GV at h
 repeat' split at h
 all_goals try cases h
 .grind
 .next a=>exact Xi a
theorem Qz {α:Type}{Q:Nat×List Pc->Prop}(g:Nat×List Pc->α->Except Ft (Nat×List Pc))(d:∀s x a,g s x=.ok a->Q s->Q a):∀(l:List α) (s a:Nat×List Pc),l.foldlM g s=.ok a->Q s->Q a
 |[],s,a,h,b=>by cases h;exact b
 |x::l,s,a,h,b=>by
  rw[List.foldlM_cons] at h;cases c:g s x with
  |error e=>rw[c] at h;cases h
  |ok t=>
   rw[c] at h;exact Qz g d l t a h (d s x t c b)
theorem GY {M:Dm}{l:List Rl}{R:Pc->Prop}(d:∀n q,wV M l n=true->q.length<=30->R ⟨n,q,ofM M l wD n,ofM M l yG n,JE (ofM M l uH n)⟩):∀(f:Nat) (n:Int) (path:List Int) (m:Mv) (st a:Nat×List Pc),gu M l f n path m st=.ok a->(∀x∈st.2,R x)->∀x∈a.2,R x
 |0,n,path,m,st,a,h,_=>by
  unfold gu at h;grind
 |f+1,n,path,m,st,a,h,e=>by
  unfold gu at h;split at h
  .cases h
  split at h
  .cases h
  split at h
  .grind
  next g=>
  have i:∀(j:Mv) (x:Except Nat (List Qt)),(∀q,x=.ok q->q.length<=30)->kg M l n j x (st.1+1,st.2)=.ok a->∀x∈a.2,R x:=λj x k h=>by
   unfold kg at h;split at h
   .cases h
   .next q=>
    split at h
    .cases h
    .next o c=>
     split at h
     .grind
     .cases h;intro y b;rcases iw.1 b with b|b
      .exact e y b
      .simp at b;subst b;exact d n o (by simpa using g) (by rw[a7e c];exact k q rfl)
  split at h
  .cases h
  .split at h
   .exact i _ _ (λq c=>a7f c) h
   .split at h
    .exact i _ _ (λq c=>a2w c) h
    .split at h
     .exact Qz (Q:=λs=>∀x∈s.2,R x) _ (λs x a h=>GY d f x _ _ s a h) _ (st.1+1,st.2) a h e
     .split at h
      .cases h
      .exact GY d f _ _ _ (st.1+1,st.2) a h e
theorem GZ {M:Dm}{rl:List Rl}{l:List Pc}{R:Pc->Prop}(hp:fC M rl=.ok l)(c:∀n q,wV M rl n=true->q.length<=30->R ⟨n,q,ofM M rl wD n,ofM M rl yG n,JE (ofM M rl uH n)⟩):∀x∈l,R x:=by
 unfold fC at hp;cases b:gu M rl 101 0 [-1] .one (0,[]) with
 |error e=>rw[b] at hp;cases hp
 |ok st=>
  rw[b] at hp;have d:=Except.ok.inj hp;rw[<- d];intro x a;unfold yU at a;obtain⟨k, -,f⟩:=List.mem_flatMap.1 a;exact GY c 101 0 [-1] .one (0,[]) st b (λx a=>by cases a) x (mD.1 f).1
theorem Z9 {M:Dm}{rl:List Rl}{l:List Pc}(hp:fC M rl=.ok l):ajR l:=GZ hp λ_ _ _ h=>h
