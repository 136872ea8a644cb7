import Derived.Sort.KeysCollected
import Derived.Test.YtbkjmamcnflncaaGreatDoorQt27
import Derived.Laws.EntriesVeiled
namespace Go.Proofs.YtbkjmamcnflncaaGreatDoor
open Go.Proofs.Tryz
set_option maxHeartbeats 8000000
section
open Go.Sort
abbrev By:=List UInt8
def XM:List By->List By
 |[]=>[]
 |x::l=>if x∈l then XM l else x::XM l
theorem vg:∀(l:List By) (s:By),s∈XM l↔s∈l
 |[],s=>Iff.rfl
 |x::l,s=>by
  rw[XM];by_cases h:x∈l
  .rw[aR h,vg l s,gP];grind
  .rw[aG h,gP,gP,vg l s]
theorem um:∀l:List By,(XM l).Nodup
 |[]=>List.nodup_nil
 |x::l=>by
  rw[XM];by_cases h:x∈l
  .rw[aR h];exact um l
  .rw[aG h,qN];exact⟨λa=>h ((vg l x).1 a),um l⟩
structure yg (T:List By)(N:List By):Prop where
 perm:N.Perm (XM T)
 rise:N.Pairwise λx y=>x<=y
theorem yg.mem {T N:List By}(h:yg T N){s:By}(hs:s∈N):s∈T:=(vg T s).1 (h.perm.mem_iff.1 hs)
theorem vo {T d:List By}(h:d.Perm (XM T)):yg T (d.mergeSort leB):=by
 refine⟨(List.mergeSort_perm d leB).trans h,?_⟩;have:=List.pairwise_mergeSort (le:=leB) (λa b c e f=>by simp only[leB,lG] at*;exact List.le_trans e f) (λa b=>by simp only[leB,Bool.or_eq_true,lG];exact List.le_total a b) d;exact this.imp (λh=>by simpa[leB] using h)
end
section
open Go.RowKit Go.Maps Go.Sort Go.WideMaps
theorem xA:Keyed prog 9:=string_keyed underlying9
theorem a8d (w:ai):(zeroValue 3).run prog w=.ok (.int .i64 0) w:=aA
def xB (w:ai)(B n:Nat)(T:List By):Prop:=
 ∃D:DataW Unit,w.ownsMap prog 9 (plainElem prog 3) B n D/\∀s,Maps.has D (.string s)=decide (s∈T)/\D.atKey (.string s) (.lit (.int .i64 0))=.lit (.int .i64 (T.count s:Nat))
theorem xB.made (w:ai):xB (w.alloc (.map #[] 0)) w.heap.size 0 []:=
 ⟨.map [],World.ownsMap_made w _ _ _,λ_=>⟨rfl,rfl⟩⟩
theorem xB.below {w w':ai}{B n:Nat}{T:List By}(h:xB w B n T)(b:aD w w'):xB w' B n T:=by
 obtain⟨D,⟨c,d,a,e⟩,f⟩:=h;exact⟨D,⟨c,d,(b.block _ (eY.1 a).1).trans a,e⟩,f⟩
theorem xB.get {w:ai}{B n:Nat}{T:List By}(h:xB w B n T){s:aO}(hs:s.size<=maxLen):
  (Instr.lookup 202 (.map (some B)) (.string s) false).run prog w=.ok (.int .i64 (T.count s.data.toList:Nat)) w:=by
 obtain⟨D,b,e⟩:=h;obtain⟨c,a,d, -⟩:=b.lookup_int xA underlying202 underlying3 (a8d _) (keyOf_string_mk underlying9 hs);grind
theorem xB.step {w w':ai}{B n:Nat}{T:List By}{s:By}{D:DataW Unit}(h:w.ownsMap prog 9 (plainElem prog 3) B n D)(b:∀s,Maps.has D (.string s)=decide (s∈T)/\D.atKey (.string s) (.lit (.int .i64 0))=.lit (.int .i64 (T.count s:Nat)))
  (d:w'.ownsMap prog 9 (plainElem prog 3) B (n+1) (D.put (.string s) (.lit (.int .i64 ((T.count s:Nat)+1))))):xB w' B (n+1) (T++[s]):=by
 refine⟨_,d,λx=>?_⟩;have c:WideAt.IsKeyLit (.string s):=by simp[WideAt.IsKeyLit]
 by_cases e:x=s
 .subst e;refine⟨by rw[has_put_same h.isMap c];simp,?_⟩;rw[atKey_put_same h.isMap c,List.count_append,List.count_singleton_self];simp
 .have a:(Lit.string x)≠(Lit.string s):=by grind
  refine⟨by rw[has_put_other a,(b x).1];simp[e],?_⟩;rw[atKey_put_other a,(b x).2,List.count_append,List.count_singleton,aG (by simpa using λh=>e h.symm),Nat.add_zero]
theorem xB.keys {w:ai}{B n:Nat}{T:List By}{D:DataW Unit}(h:w.ownsMap prog 9 (plainElem prog 3) B n D)(b:∀s,Maps.has D (.string s)=decide (s∈T)/\D.atKey (.string s) (.lit (.int .i64 0))=.lit (.int .i64 (T.count s:Nat))):(XM T).Perm (strKeys D):=by
 obtain⟨i,rfl,c⟩:=h.keysOf;obtain⟨d,e,a⟩:=h.tidy xA;cases e;refine perm_strKeys a (λp a=>?_) (um T) (λx=>?_)
 .obtain⟨v,f⟩:=c p a;obtain⟨x, -,g, -⟩:=Maps.keyOf_str underlying9 f;exact⟨x,g⟩
 .rw[vg,(b x).1];simp
end
section
open Go.RowKit Go.Maps Go.Shelf Go.WideMaps
def A9 (i:Nat):Nat:=match i with
 |0=>19|1=>20|2=>21|3=>22|4=>23|5=>24|6=>25|7=>26|8=>27|9=>28|10=>29|11=>30|_=>31
def IY (i:Nat):Bs:=match i with
 |0=>[84]|1=>[84]|2=>[78,78,87]|3=>[78]|4=>[78,78,78]|5=>[78,87,84]|6=>[78,87]|7=>[]|8=>[]|9=>[84]|10=>[78,87]|11=>[]|_=>[]
abbrev cmV (PB i:Nat):ax:=.agg #[bV (IY i),.func (.func (A9 i)) #[aK PB] #[]]
def cmL (PB:Nat)(k:FuncId)(f:aO):List ax->List ax->Option (DataW Unit×List MemPlace)
 |[.pointer (some a)],[]=>if a=⟨PB,0,none⟩/\∃i,i∈List.range 13/\k=A9 i/\f=⟨(IY i).toArray⟩ then some (.lit (.int .i64 k),[]) else none
 |_,_=>none
def cmC (PB:Nat):List ax->Option (DataW Unit×List MemPlace)
 |[.string f,.func (.func k) a b]=>cmL PB k f a.toList b.toList
 |[.string f,.nilFunc]=>if f=⟨#[]⟩ then some (.lit (.int .i64 (-1)),[]) else none
 |_=>none
def cmE (PB:Nat):ax->Option (DataW Unit×List MemPlace)
 | .agg a=>cmC PB a.toList
 |_=>none
theorem to1 {α:Type}{b:Array α}{a:α}(h:b.toList=[a]):b=#[a]:=by cases b;simp at h;rw[h]
theorem to0 {α:Type}{a:Array α}(h:a.toList=[]):a=#[]:=by cases a;simp at h;rw[h]
theorem to2 {α:Type}{c:Array α}{a b:α}(h:c.toList=[a,b]):c=#[a,b]:=by cases c;simp at h;rw[h]
theorem RV {PB:Nat}{v:ax}{d:Int}{g:List MemPlace}(h:cmE PB v=some (.lit (.int .i64 d),g)):(∃i,i<13/\v=cmV PB i/\d=A9 i)\/(v=.agg #[.string ⟨#[]⟩,.nilFunc]/\d= -1):=by
 unfold cmE at h;split at h
 .next o=>
  unfold cmC at h;split at h
  .next f k p q b=>
   unfold cmL at h;split at h
   .next a l m=>
    split at h
    .next c=>
     obtain⟨rfl,j,n,rfl,rfl⟩:=c;have e:(A9 j:Int)=d:=by grind
     exact .inl ⟨j,List.mem_range.1 n,by rw[to2 b,to1 l,to0 m],e.symm⟩
    .cases h
   .cases h
  .next f b=>
   split at h
   .next c=>
    have e:(-1:Int)=d:=by grind
    exact .inr ⟨by rw[to2 b,c],e.symm⟩
   .cases h
  .cases h
 .cases h
theorem acr (PB i:Nat)(hi:i<13):cmE PB (cmV PB i)=some (.lit (.int .i64 (A9 i)),[]):=by
 show(if _ then _ else _)=_;rw[aR ⟨rfl,i,List.mem_range.2 hi,rfl,rfl⟩]
theorem a8f:∀i,i<13->∀j,j<13->A9 i=A9 j->i=j:=aC
theorem a8g {PB i:Nat}(hi:i<13){v:ax}{a:List MemPlace}(h:cmE PB v=some (.lit (.int .i64 (A9 i)),a)):v=cmV PB i:=by
 rcases RV h with⟨j,b,rfl,c⟩|⟨-,c⟩
 .rw[a8f i hi j b aa]
 .omega
theorem a3Q {PB:Nat}{v:ax}{b:List MemPlace}(h:cmE PB v=some (.lit (.int .i64 (-1)),b)):v=.agg #[.string ⟨#[]⟩,.nilFunc]:=by
 rcases RV h with⟨j,c,rfl,a⟩|⟨a, -⟩
 .omega
 .exact a
def qm (w:ai)(PB B:Nat)(p:Bs->Option Nat)(n:Nat):Prop:=
 ∃D:DataW Unit,w.ownsMap prog 9 (cmE PB) B n D/\∀s,Maps.has D (.string s)=(p s).isSome/\∀i,p s=some i->i<13/\∀a,D.atKey (.string s) a=.lit (.int .i64 (A9 i))
theorem qm.made (w:ai)(PB:Nat):qm (w.alloc (.map #[] 0)) PB w.heap.size (λ_=>none) 0:=
 ⟨.map [],World.ownsMap_made w _ _ _,λ_=>⟨rfl,λ_ h=>by cases h⟩⟩
theorem qm.same {w w':ai}{PB B n:Nat}{p:Bs->Option Nat}(h:qm w PB B p n)(a:w'.heap[B]? =w.heap[B]?):qm w' PB B p n:=by
 obtain⟨D,⟨b,c,d,e⟩,f⟩:=h;exact⟨D,⟨b,c,a.trans d,e⟩,f⟩
theorem qm.at {w:ai}{PB B n:Nat}{p:Bs->Option Nat}(h:qm w PB B p n):∃a b,w.heap[B]? =some (.map a b):=by
 obtain⟨D,⟨a,b,c, -⟩, -⟩:=h;grind
section
variable {w:ai}{PB B n:Nat}{p:Bs->Option Nat}{z:Array Oper}{rest:List Oper}{o:Oper}{a:Act}{Q:Exit->Act->ai->Prop}
theorem jF (h:qm w PB B p n)(m:n<maxLen)(s:Bs)(hs:s.length<=1000)(i:Nat)(hi:i<13):
  ∃w',(Instr.mapUpdate 51 (.map (some B)) (.string ⟨s.toArray⟩) (cmV PB i)).run prog w=.ok () w'/\qm w' PB B (λy=>if y=s then some i else p y) (n+1)/\w.mapTurned w' B:=by
 obtain⟨D,e,f⟩:=h;have a:keyOf prog 9 (.string ⟨s.toArray⟩)=some (.string s):=keyOf_string_mk underlying9 (s:=⟨s.toArray⟩) (by rw[gY];simp only[maxLen];omega);have g:WideAt.IsKeyLit (.string s):=by simp[WideAt.IsKeyLit]
 obtain⟨w',b,o,q⟩:=e.store xA underlying51 m a (acr PB i hi);refine⟨w',b,⟨_,o,λy=>?_⟩,q⟩;by_cases k:y=s
 .subst k;simp only[aR];exact⟨has_put_same e.isMap g _,λj d=>by cases d;exact⟨hi,λl=>atKey_put_same e.isMap g _ _⟩⟩
 .simp only[aG k];have c:(Lit.string y)≠(Lit.string s):=by grind
  exact⟨(has_put_other c _).trans (f y).1,λj d=>⟨((f y).2 j d).1,λl=>(atKey_put_other c _ _).trans (((f y).2 j d).2 l)⟩⟩
theorem XN (g:o.guard=none)(m x:Operand)(d:o.op=Op.lookup 51 m x true)(j:(zeroValue 60).run prog w=.ok (.agg #[.string ⟨#[]⟩,.nilFunc]) w)(k:a.eval m=.map (some B))(h:qm w PB B p n)(s:Bs)(hs:s.length<=1000000)(l:a.eval x=.string ⟨s.toArray⟩)
  (A:wpList prog z Q rest (a.put o.dst (.tuple #[match p s with|some i=>cmV PB i|none=>.agg #[.string ⟨#[]⟩,.nilFunc],.bool (p s).isSome])) w):wpList prog z Q (o::rest) a w:=by
 obtain⟨D,q,f⟩:=h;have b:keyOf prog 9 (.string ⟨s.toArray⟩)=some (.string s):=keyOf_string_mk underlying9 (s:=⟨s.toArray⟩) (by rw[gY];simp only[maxLen];omega);refine wpList_lookup_own_ok w g m x _ d _ _ xA underlying51 (cmE PB) j (.lit (.int .i64 (-1))) [] rfl B n D k q _ (.string s) l b λv C c=>?_;rw[(f s).1];have e:v=(match p s with|some i=>cmV PB i|none=>.agg #[.string ⟨#[]⟩,.nilFunc]):=by
  cases r:p s with
  |none=>
   have t:Maps.has D (.string s)=false:=by grind
   rw[atKey_of_not_has t] at c;exact a3Q c
  |some i=>
   obtain⟨u,y⟩:=(f s).2 i r;rw[y] at c;exact a8g u c
 grind
end
end
section
open Go.RowKit Go.Maps Go.Shelf Go.WideMaps Go.ChangeMaps
set_option maxRecDepth 20000
def Aa (y:Bs):Option Nat:=if y=[99,111,117,110,116] then some 12 else if y=[112,105,101,99,101,115] then some 11 else if y=[115,116,121,108,101] then some 10 else if y=[102,105,110,100] then some 9 else if y=[116,101,120,116] then some 8 else if y=[115,104,111,119] then some 7 else if y=[117,110,115,101,116] then some 6 else if y=[115,101,116] then some 5 else if y=[109,111,118,101] then some 4 else if y=[114,101,109,111,118,101] then some 3 else if y=[97,100,100] then some 2 else if y=[115,104,101,101,116] then some 1 else if y=[111,112,101,110] then some 0 else none
theorem a03 {w w':ai}{B:Nat}(h:w.mapTurned w' B):w'.heap.size=w.heap.size/\(∀g,g≠B->w'.heap[g]? =w.heap[g]?)/\w'.os=w.os/\w'.tape=w.tape/\w'.output=w.output:=by
 obtain⟨e,f,a,b,c,rfl⟩:=h;exact⟨by simp[setBlock],λg d=>heap_setBlock_other c _ d,rfl,rfl,rfl⟩
theorem gG {w w':ai}{B N:Nat}{W:ai}(a:Below N W w)(h:w.mapTurned w' B)(i:N<=B):Below N W w':=by
 obtain⟨b,c,d,e,f⟩:=a03 h;exact⟨d.trans a.os,e.trans a.tape,f.trans a.output,by rw[b];exact a.size,λj g=>(c j aa).trans (a.block j g)⟩
theorem NV (PB:Nat)(W:ai):
  aL 14 #[aK PB] W λe w'=>∃B,e=ay (.map (some B))/\qm w' PB B Aa 13/\Below W.heap.size W w':=by
 have o:=qm.made W PB;have p:Below W.heap.size W (W.alloc (.map #[] 0)):=(aW _ W).alloc az _;obtain⟨B,u⟩:∃B,W.heap.size=B:=⟨_,rfl⟩;rw[u] at o p;obtain⟨w1,R1,v,w⟩:=jF o aC [111,112,101,110] aC 0 aC;have x:=gG p w az;obtain⟨w2,R2,y,z⟩:=jF v aC [115,104,101,101,116] aC 1 aC;have A:=gG x z az;obtain⟨w3,R3,C,D⟩:=jF y aC [97,100,100] aC 2 aC;have E:=gG A D az;obtain⟨w4,R4,F,H⟩:=jF C aC [114,101,109,111,118,101] aC 3 aC;have I:=gG E H az;obtain⟨w5,R5,J,K⟩:=jF F aC [109,111,118,101] aC 4 aC;have L:=gG I K az;obtain⟨w6,R6,M,N⟩:=jF J aC [115,101,116] aC 5 aC;have O:=gG L N az;obtain⟨w7,R7,P,Q⟩:=jF M aC [117,110,115,101,116] aC 6 aC;have R:=gG O Q az;obtain⟨w8,R8,S,T⟩:=jF P aC [115,104,111,119] aC 7 aC;have U:=gG R T az;obtain⟨w9,R9,V,X⟩:=jF S aC [116,101,120,116] aC 8 aC;have Y:=gG U X az;obtain⟨a4,q,a,b⟩:=jF V aC [102,105,110,100] aC 9 aC;have c:=gG Y b az;obtain⟨a5,r,d,f⟩:=jF a aC [115,116,121,108,101] aC 10 aC;have g:=gG c f az;obtain⟨a6,s,h,i⟩:=jF d aC [112,105,101,99,101,115] aC 11 aC;have j:=gG g i az;obtain⟨k,t,l,m⟩:=jF h aC [99,111,117,110,116] aC 12 aC;have n:=gG j m az;have Z:Hid (qm k PB B Aa 13/\Below W.heap.size W k):=⟨l,by rw[u];exact n⟩;clear o v y C F J M P S V a d h l p x A E I L O R U Y c g j n w z D H K N Q T X b f i m;have a7:=@run_makeMap prog;simp only[cmV,A9,IY] at R1 R2 R3 R4 R5 R6 R7 R8 R9 q r s t;go_enter func14,ntmps14;go_wp2_with fail;go_ret;exact⟨B,rfl,Z.out.1,Z.out.2⟩
end
section
open Go.RowKit Go.Maps Go.Shelf
set_option maxRecDepth 20000
def shT (s:Bs):Bs:=if s=[115,104,101,101,116] then[115,104,101,101,116,32] else s
def nN (s:Bs):Option (Nat×Ps):=match Aa (Lib.cut (shT s) [32]).1 with
 |none=>none
 |some i=>(jE (IY i) ⟨(Lib.cut (shT s) [32]).2.1,(Lib.cut (shT s) [32]).2.2,[],[],[]⟩).map λp=>(i,p)
abbrev cm0:ax:=.agg #[au ⟨#[]⟩,.nilFunc]
abbrev pr0:ax:=.agg #[aj none 0 0,au ⟨#[]⟩,au ⟨#[]⟩]
def LnR (E:Nat->Addr)(PB B:Nat)(r:Option (Nat×Ps))(e:Ending)(w:ai):Prop:=match r with
 |none=>e=ay (aH #[cm0,pr0,eV (E 1)])
 |some (i,p)=>∃o a,e=ay (aH #[cmV PB i,.agg (jl o p.ns.length a p.nm p.tx),aY])/\w.ownsRow B 3 1 (aj o p.ns.length a) p.ns.length (di p.ns)
theorem a3R:∀i,i<13->(∀c∈IY i,c.toNat<128)/\(IY i).length<=1000:=aC
theorem acs {c:Prop}[Decidable c]{k n i:Nat}{e:Option Nat}(a:k<n)(he:e=some i->i<n):(if c then some k else e)=some i->i<n:=by grind
theorem Vw {y:Bs}{i:Nat}(h:Aa y=some i):i<13:=by
 unfold Aa at h;revert h
 iterate 13 refine acs aC ?_
 grind
theorem a3S (w:ai):(zeroValue 60).run prog w=.ok (.agg #[au ⟨#[]⟩,.nilFunc]) w:=aA
theorem faR {w:ai}{R L g:Nat}{a b c d e v:ax}{t u:TypeId}(h:w.heap[R]? =some (ak #[a,b] t))(k:w.heap[L]? =some (ak #[c,d,e] u))(_:w.cell? (aJ g 0)=some v)(f:g<R)(i:R<L):
  w.cell? (aJ R 0)=some a/\w.cell? (aJ R 1)=some b/\w.cell? (aJ L 0)=some c/\w.cell? (aJ L 1)=some d/\w.cell? (aJ L 2)=some e/\w.frozen? ⟨R,0,none⟩=false/\w.frozen? ⟨R,1,none⟩=false/\w.frozen? ⟨L,0,none⟩=false/\w.frozen? ⟨L,1,none⟩=false/\w.frozen? ⟨L,2,none⟩=false/\g<L/\R≠g/\L≠g/\L≠R/\R≠L:=
 ⟨aQ h 0 _ rfl,aQ h 1 _ rfl,aQ k 0 _ rfl,aQ k 1 _ rfl,aQ k 2 _ rfl,bG h 0,bG h 1,bG k 0,bG k 1,bG k 2,aa,aa,aa,aa,aa⟩
theorem acu {W w:ai}{R L B:Nat}{a b c d e:ax}{t u:TypeId}(h:w.heap[R]? =some (ak #[a,b] t))(k:w.heap[L]? =some (ak #[c,d,e] u))(hne:L≠R)(j:B<=R)(i:B<=L)(m:Below B W w)(x y p q r:ax):
  ∀U,(((((w.setCell ⟨R,0,none⟩ x).setCell ⟨R,1,none⟩ y).setCell ⟨L,0,none⟩ p).setCell ⟨L,1,none⟩ q).setCell ⟨L,2,none⟩ r).drew=U->U.cell? (aJ R 0)=some x/\U.cell? (aJ R 1)=some y/\U.cell? (aJ L 0)=some p/\U.cell? (aJ L 1)=some q/\U.cell? (aJ L 2)=some r/\Below B W U:=by
 have n:=xg (xg h 0 x) 1 y;have o:((w.setCell ⟨R,0,none⟩ x).setCell ⟨R,1,none⟩ y).heap[L]? =some (ak #[c,d,e] u):=by rw[heap_setCell_other _ _ _ _ hne,heap_setCell_other _ _ _ _ hne];exact k
 have g:=xg (xg (xg o 0 p) 1 q) 2 r;have f:=(((heap_setCell_other _ ⟨L,2,none⟩ R r (Ne.symm hne)).trans (heap_setCell_other _ ⟨L,1,none⟩ R q (Ne.symm hne))).trans (heap_setCell_other _ ⟨L,0,none⟩ R p (Ne.symm hne))).trans n;have l:=((((m.setCell (p:=⟨R,0,none⟩) j x).setCell (p:=⟨R,1,none⟩) j y).setCell (p:=⟨L,0,none⟩) i p).setCell (p:=⟨L,1,none⟩) i q).setCell (p:=⟨L,2,none⟩) i r;generalize ((((w.setCell ⟨R,0,none⟩ x).setCell ⟨R,1,none⟩ y).setCell ⟨L,0,none⟩ p).setCell ⟨L,1,none⟩ q).setCell ⟨L,2,none⟩ r=X at f g l⊢;rintro U rfl;exact⟨aQ (w:=X.drew) f 0 _ rfl,aQ (w:=X.drew) f 1 _ rfl,aQ (w:=X.drew) g 0 _ rfl,aQ (w:=X.drew) g 1 _ rfl,aQ (w:=X.drew) g 2 _ rfl,below_drewN l 1⟩
theorem NY {E:Nat->Addr}{W:ai}(hE:NE E W)(hm:TF W){PB MB n:Nat}(hC:qm W PB MB Aa n)(s:Bs)(hs:s.length<=100000):
  aL 32 #[.map (some MB),bV s] W λe w'=>LnR E PB W.heap.size (nN s) e w'/\Below W.heap.size W w':=by
 have X:=aF hE;have HX:=aF hm;have HC:=aF hC;obtain⟨Z,hZ⟩:∃Z,nN s=Z:=⟨_,rfl⟩;have HZ:Hid (Z=nN s):=hZ.symm;rw[hZ];have u:(shT s).length<=1000000:=by
  unfold shT;split
  .decide
  .omega
 clear hE hm hC hZ hs;go_enter func32,ntmps32;go_upto_region 1 with fail;have z:=dR W (ak #[au ⟨#[]⟩,.nilFunc] 60);have w:=dR (W.alloc (ak #[au ⟨#[]⟩,.nilFunc] 60)) (ak (jl none 0 0 [] []) 62);have l:=(w.block _ (bu (dY W #[au ⟨#[]⟩,.nilFunc] 60))).trans (dY W #[au ⟨#[]⟩,.nilFunc] 60);have d:=dY (W.alloc (ak #[au ⟨#[]⟩,.nilFunc] 60)) (jl none 0 0 [] []) 62;rw[dV] at d;have bW:=bf z w;have c5:∃V,(W.alloc (ak #[au ⟨#[]⟩,.nilFunc] 60)).alloc (ak #[aj none 0 0,au ⟨#[]⟩,au ⟨#[]⟩] 62)=V/\(W.alloc (ak #[au ⟨#[]⟩,.nilFunc] 60)).alloc (ak (jl none 0 0 [] []) 62)=V:=⟨_,rfl,rfl⟩;obtain⟨V,hV,b5⟩:=c5;have Oq:V.heap.size=W.heap.size+1+1:=by rw[<- hV,dV,dV]
 rw[b5] at l d bW;rw[hV];obtain⟨R,hR⟩:∃R,W.heap.size=R:=⟨_,rfl⟩;obtain⟨L,hL⟩:∃L,R+1=L:=⟨_,rfl⟩;unfold aD at bW;rw[hR] at l d Oq bW⊢;rw[hL] at d Oq⊢;have HS:Hid (W.heap.size=R/\R+1=L/\L+1=V.heap.size):=⟨hR,hL,Oq.symm⟩;have J:Hid (V.heap[R]? =some (ak #[au ⟨#[]⟩,.nilFunc] 60)/\V.heap[L]? =some (ak (jl none 0 0 [] []) 62)/\Below R W V):=⟨l,d,bW⟩;clear hV b5 hR hL z w bW l d Oq;have Y:=j5 s [115,104,101,101,116];have c6:∃t:Bs,shT s=t/\((s==[115,104,101,101,116])=true/\t=[115,104,101,101,116,32]\/(s==[115,104,101,101,116])=false/\t=s):=by
  unfold shT;by_cases h:s=[115,104,101,101,116]
  .exact⟨_,rfl,.inl ⟨beq_iff_eq.2 h,aR h⟩⟩
  .exact⟨_,rfl,.inr ⟨dW.2 h,aG h⟩⟩
 obtain⟨t,ht,hk⟩:=c6;rw[ht] at u;have HT:=aF ht;have CT:=Bg t [32] u V (HX.out.below (by unfold aD;rw[HS.out.1];exact J.out.2.2));have b6:Hid ((Lib.cut t [32]).2.1.length<=1000000):=bO (wE t [32]) u;have a4:(Lib.cut t [32]).1.length<=1000000:=bO (oU t [32]) u;obtain⟨c1,B⟩:∃c,(Lib.cut t [32]).1=c:=⟨_,rfl⟩;obtain⟨c2,F⟩:∃c,(Lib.cut t [32]).2.1=c:=⟨_,rfl⟩;obtain⟨c3,a5⟩:∃c,(Lib.cut t [32]).2.2=c:=⟨_,rfl⟩;rw[B,F,a5] at CT;rw[F] at b6;rw[B] at a4;have a6:Hid (Z=match Aa c1 with|none=>none|some i=>(jE (IY i) ⟨c2,c3,[],[],[]⟩).map λp=>(i,p)):=by
  show Z=_;rw[HZ.out];unfold nN;rw[HT.out,B,F,a5]
 clear ht u B F a5 HZ HT;rcases hk with⟨he,rfl⟩|⟨he,rfl⟩
 all_goals
  rw[he] at Y;go_upto_region 4 with(go_at_call 59;refine CT.mono ?_;rintro e H ⟨rfl,z⟩);have f:=HS.out;have a7:Below R W H:=J.out.2.2.trans (z.mono aa);have CM:qm H PB MB Aa n:=by
   obtain⟨es,cl,h1⟩:=HC.out.at;exact HC.out.same (a7.block MB (by have:=bu h1;omega))
  cases hq:Aa c1 with
  |none=>
   go_upto_region 6 with(at_lookup;refine XN rfl _ _ rfl (a3S _) rfl CM c1 a4 rfl ?_);have w:=dR H (ak #[au ⟨#[]⟩,.nilFunc] 60);have c7:Z=none:=by rw[a6.out,hq]
   generalize H.alloc (ak #[au ⟨#[]⟩,.nilFunc] 60)=w2 at w⊢;have a:=z.trans (w.mono z.size);have l:=(a.block R aa).trans J.out.1;have d:=(a.block L aa).trans J.out.2.1;have K:Below R W w2:=J.out.2.2.trans (a.mono aa);have x:=(NE.below X.out (K.mono (Nat.le_of_eq f.1))).c1;have b:=aX (NE.c1 X.out);rw[f.1] at b;obtain⟨M,N,O,Q,S,f0,f1,g0,g1,g2,n1,n2,n3,n4,n5⟩:=faR l d x b aa;have FN:=acu l d n4 az aa K (au ⟨#[]⟩) .nilFunc (aj none 0 0) (au ⟨#[]⟩) (au ⟨#[]⟩);clear CT CM hq z w a a7 l d Y he;go_region;go_wp2_with fail;obtain⟨M,N,O,Q,S,rb⟩:=FN _ rfl;refine bg (v:=aH #[cm0,pr0,eV (E 1)]) (by simp[results,results32,go_sem,M,N,O,Q,S]) rfl ⟨rfl,rb⟩
  |some i=>
   have hi:=Vw hq;have b7:Z=(jE (IY i) ⟨c2,c3,[],[],[]⟩).map λp=>(i,p):=by rw[a6.out,hq]
   have b8:=aF b7;have w:=dR H (ak #[bV (IY i),.func (.func (A9 i)) #[aK PB] #[]] 60);have kC:=dY H #[bV (IY i),.func (.func (A9 i)) #[aK PB] #[]] 60;have b9:=dV H (ak #[bV (IY i),.func (.func (A9 i)) #[aK PB] #[]] 60);clear b7;go_upto_region 6 with(at_lookup;refine XN rfl _ _ rfl (a3S _) rfl CM c1 a4 rfl ?_);generalize H.alloc (ak #[bV (IY i),.func (.func (A9 i)) #[aK PB] #[]] 60)=w2 at w kC b9⊢;obtain⟨C,hC⟩:∃C,H.heap.size=C:=⟨_,rfl⟩;have c0:=z.size;have a:=z.trans (w.mono c0);rw[hC] at kC b9 c0⊢;have l:=(a.block R aa).trans J.out.1;have d:=(a.block L aa).trans J.out.2.1;have K:Below R W w2:=J.out.2.2.trans (a.mono aa);have a8:Below W.heap.size W w2:=by rw[f.1];exact K
   have RP:=Kh (NE.below X.out a8) (HX.out.below a8) (IY i) c2 c3 (a3R i hi).1 b6.out (a3R i hi).2;obtain⟨P,hP⟩:∃P,jE (IY i) ⟨c2,c3,[],[],[]⟩=P:=⟨_,rfl⟩;have I:Z=P.map λp=>(i,p):=by rw[b8.out,hP]
   rw[hP] at RP;clear CT CM hq z w a a7 Y he a6 b8 a8 hP;cases P with
   |none=>
    go_upto_region 9 with(go_at_call 60;refine RP.mono ?_;rintro e T ⟨⟨o,m,q,nm,tx,rfl⟩,b3⟩);have U:=dR T (ak (jl o m q nm tx) 62);have a9:=b3.size;generalize T.alloc (ak (jl o m q nm tx) 62)=y at U⊢;have A:=b3.trans (U.mono a9);have j:=(A.block R aa).trans l;have k:=(A.block L aa).trans d;have r:Below R W y:=K.trans (A.mono aa);have x:=(NE.below X.out (r.mono (Nat.le_of_eq f.1))).c1;have b:=aX (NE.c1 X.out);rw[f.1] at b;obtain⟨M,N,O,Q,S,f0,f1,g0,g1,g2,n1,n2,n3,n4,n5⟩:=faR j k x b aa;have FN:=acu j k n4 az aa r (au ⟨#[]⟩) .nilFunc (aj none 0 0) (au ⟨#[]⟩) (au ⟨#[]⟩);have c7:Z=none:=I;clear RP b3 U A K l d kC j k I;go_region;go_wp2_with fail;obtain⟨M,N,O,Q,S,rb⟩:=FN _ rfl;refine bg (v:=aH #[cm0,pr0,eV (E 1)]) (by simp[results,results32,go_sem,M,N,O,Q,S]) rfl ⟨rfl,rb⟩
   |some P=>
    go_upto_region 10 with(go_at_call 60;refine RP.mono ?_;rintro e T ⟨⟨o,q,rfl,ow⟩,b3⟩);have U:=dR T (ak (jl o P.ns.length q P.nm P.tx) 62);have kD:=dY T (jl o P.ns.length q P.nm P.tx) 62;have a9:=b3.size;have c4:=dV T (ak (jl o P.ns.length q P.nm P.tx) 62);generalize T.alloc (ak (jl o P.ns.length q P.nm P.tx) 62)=y at U kD c4⊢;obtain⟨D,hD⟩:∃D,T.heap.size=D:=⟨_,rfl⟩;have Qw:=bY ow U;rw[hD] at kD a9 c4⊢;have A:=b3.trans (U.mono aa);have j:=(A.block R aa).trans l;have k:=(A.block L aa).trans d;have b0:=(A.block C aa).trans kC;have r:Below R W y:=K.trans (A.mono aa);have x:=(NE.below X.out (r.mono (Nat.le_of_eq f.1))).c1;have b:=aX (NE.c1 X.out);rw[f.1] at b;obtain⟨M,N,O,Q,S,f0,f1,g0,g1,g2, -, -, -,n4,n5⟩:=faR j k x b aa;have q0:y.cell? (aJ C 0)=some (bV (IY i)):=aQ b0 0 _ rfl;have q1:y.cell? (aJ C 1)=some (.func (.func (A9 i)) #[aK PB] #[]):=aQ b0 1 _ rfl;have d0:y.cell? (aJ D 0)=some (aj o P.ns.length q):=aQ kD 0 _ rfl;have d1:y.cell? (aJ D 1)=some (bV P.nm):=aQ kD 1 _ rfl;have d2:y.cell? (aJ D 2)=some (bV P.tx):=aQ kD 2 _ rfl;have m1:C≠R:=aa;have m2:R≠C:=aa;have m3:C≠L:=aa;have m4:L≠C:=aa;have m5:D≠R:=aa;have m6:R≠D:=aa;have m7:D≠L:=aa;have m8:L≠D:=aa;have FN:=acu j k n4 az aa r (bV (IY i)) (.func (.func (A9 i)) #[aK PB] #[]) (aj o P.ns.length q) (bV P.nm) (bV P.tx);have c8:∀g,w2.heap.size<=g->(((((y.setCell ⟨R,0,none⟩ (bV (IY i))).setCell ⟨R,1,none⟩ (.func (.func (A9 i)) #[aK PB] #[])).setCell ⟨L,0,none⟩ (aj o P.ns.length q)).setCell ⟨L,1,none⟩ (bV P.nm)).setCell ⟨L,2,none⟩ (bV P.tx)).heap[g]? =y.heap[g]? :=λg hg=>by
     have e1:g≠L:=aa;have e2:g≠R:=aa;rw[heap_setCell_other _ _ _ _ e1,heap_setCell_other _ _ _ _ e1,heap_setCell_other _ _ _ _ e1,heap_setCell_other _ _ _ _ e2,heap_setCell_other _ _ _ _ e2]
    have HO:Hid (Z=some (i,P)/\y.ownsRow w2.heap.size 3 1 (aj o P.ns.length q) P.ns.length (di P.ns)/\R<=w2.heap.size):=⟨I,Qw,aa⟩;clear RP b3 U A K l d kC j k b0 kD I ow Qw r;go_region;go_wp2_with fail;obtain⟨M,N,O,Q,S,rb⟩:=FN _ rfl;obtain⟨z1,z2,z3⟩:=HO.out;refine bg (v:=aH #[cmV PB i,.agg (jl o P.ns.length q P.nm P.tx),aY]) (by simp[results,results32,go_sem,M,N,O,Q,S]) rfl ⟨?_,rb⟩;rw[z1];exact⟨o,q,rfl,(dF (Qu z2 z3) λg hg=>c8 g (z2.lt g hg).1).drew⟩
end
section
variable {z A:Dm}{r:Int->Nat}
def szM (M:Dm)(f:Nat)(i:Int):Nat:=(pre M f i 0).length
theorem XP (M:Dm):∀(f:Nat) (i d a:Int),(pre M f i d).length=(pre M f i a).length
 |0,_,_,_=>rfl
 |f+1,i,d,a=>by
  rw[pre,pre];cases M i with
  |none=>rfl
  |some e=>
   simp only[eZ,List.length_flatMap];congr 2;exact List.map_congr_left λk _=>XP M f k _ _
theorem acz {M:Dm}{f:Nat}{i:Int}{e:ig}(he:M i=some e):szM M (f+1) i=(e.kids.map (szM M f)).sum+1:=by
 unfold szM;rw[pre,he];simp only[eZ,List.length_flatMap];congr 2;exact List.map_congr_left λk _=>XP M f k _ _
end
def JG (M:Dm):Nat->Int->Nd
 |0,_=>.mk [] [] []
 |f+1,n=>match M n with
  |none=>.mk [] [] []
  |some e=>.mk e.name e.ats (e.kids.map (JG M f))
def F2 (R:Int->Int->Prop):List Int->List Int->Prop
 |[],[]=>True
 |a::l,b::m=>R a b/\F2 R l m
 |_,_=>False
variable {M z:Dm}{r:Int->Nat}{L:List Int}
