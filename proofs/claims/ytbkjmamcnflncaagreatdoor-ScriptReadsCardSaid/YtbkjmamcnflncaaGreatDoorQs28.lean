import Derived.Sort.KeysCollected
import Derived.Test.YtbkjmamcnflncaaGreatDoorQs27
import Derived.Laws.EntriesVeiled
namespace Go.Proofs.YtbkjmamcnflncaaGreatDoor
open Go.Proofs.Tryz
set_option maxHeartbeats 8000000
section
open Go.Sort
abbrev By:=List UInt8
def X5:List By->List By
 |[]=>[]
 |x::l=>if x∈l then X5 l else x::X5 l
theorem uB:∀(l:List By) (s:By),s∈X5 l↔s∈l
 |[],s=>Iff.rfl
 |x::l,s=>by
  rw[X5];by_cases h:x∈l
  .rw[if_pos h,uB l s,gD];grind
  .rw[if_neg h,gD,gD,uB l s]
theorem sI:∀l:List By,(X5 l).Nodup
 |[]=>List.nodup_nil
 |x::l=>by
  rw[X5];by_cases h:x∈l
  .rw[if_pos h];exact sI l
  .rw[if_neg h,qi];exact⟨λa=>h ((uB l x).1 a),sI l⟩
structure xC (T:List By)(N:List By):Prop where
 perm:N.Perm (X5 T)
 rise:N.Pairwise λx y=>x<=y
theorem xC.mem {T N:List By}(h:xC T N){s:By}(hs:s∈N):s∈T:=(uB T s).1 (h.perm.mem_iff.1 hs)
theorem uC {T d:List By}(h:d.Perm (X5 T)):xC T (d.mergeSort leB):=by
 refine⟨(List.mergeSort_perm d leB).trans h,?_⟩;have:=List.pairwise_mergeSort (le:=leB) (λa b c e f=>by simp only[leB,kZ] at*;exact List.le_trans e f) (λa b=>by simp only[leB,Bool.or_eq_true,kZ];exact List.le_total a b) d;exact this.imp (λh=>by simpa[leB] using h)
end
section
open Go.RowKit Go.Maps Go.Sort Go.WideMaps
theorem wJ:Keyed prog 9:=string_keyed underlying9
theorem a7m (w:ah):(zeroValue 3).run prog w=.ok (.int .i64 0) w:=az
def wK (w:ah)(B n:Nat)(T:List By):Prop:=
 ∃D:DataW Unit,w.ownsMap prog 9 (plainElem prog 3) B n D/\∀s,Maps.has D (.string s)=decide (s∈T)/\D.atKey (.string s) (.lit (.int .i64 0))=.lit (.int .i64 (T.count s:Nat))
theorem wK.made (w:ah):wK (w.alloc (.map #[] 0)) w.heap.size 0 []:=
 ⟨.map [],World.ownsMap_made w _ _ _,λ_=>⟨rfl,rfl⟩⟩
theorem wK.below {w w':ah}{B n:Nat}{T:List By}(h:wK w B n T)(b:aD w w'):wK w' B n T:=by
 obtain⟨D,⟨c,d,a,e⟩,f⟩:=h;exact⟨D,⟨c,d,(b.block _ (dZ.1 a).1).trans a,e⟩,f⟩
theorem wK.get {w:ah}{B n:Nat}{T:List By}(h:wK w B n T){s:aM}(hs:s.size<=maxLen):
  (Instr.lookup 202 (.map (some B)) (.string s) false).run prog w=.ok (.int .i64 (T.count s.data.toList:Nat)) w:=by
 obtain⟨D,b,e⟩:=h;obtain⟨c,a,d, -⟩:=b.lookup_int wJ underlying202 underlying3 (a7m _) (keyOf_string_mk underlying9 hs);grind
theorem wK.step {w w':ah}{B n:Nat}{T:List By}{s:By}{D:DataW Unit}(h:w.ownsMap prog 9 (plainElem prog 3) B n D)(b:∀s,Maps.has D (.string s)=decide (s∈T)/\D.atKey (.string s) (.lit (.int .i64 0))=.lit (.int .i64 (T.count s:Nat)))
  (d:w'.ownsMap prog 9 (plainElem prog 3) B (n+1) (D.put (.string s) (.lit (.int .i64 ((T.count s:Nat)+1))))):wK w' B (n+1) (T++[s]):=by
 refine⟨_,d,λx=>?_⟩;have c:WideAt.IsKeyLit (.string s):=by simp[WideAt.IsKeyLit]
 by_cases e:x=s
 .subst e;refine⟨by rw[has_put_same h.isMap c];simp,?_⟩;rw[atKey_put_same h.isMap c,List.count_append,List.count_singleton_self];simp
 .have a:(Lit.string x)≠(Lit.string s):=by grind
  refine⟨by rw[has_put_other a,(b x).1];simp[e],?_⟩;rw[atKey_put_other a,(b x).2,List.count_append,List.count_singleton,if_neg (by simpa using λh=>e h.symm),Nat.add_zero]
theorem wK.keys {w:ah}{B n:Nat}{T:List By}{D:DataW Unit}(h:w.ownsMap prog 9 (plainElem prog 3) B n D)(b:∀s,Maps.has D (.string s)=decide (s∈T)/\D.atKey (.string s) (.lit (.int .i64 0))=.lit (.int .i64 (T.count s:Nat))):(X5 T).Perm (strKeys D):=by
 obtain⟨i,rfl,c⟩:=h.keysOf;obtain⟨d,e,a⟩:=h.tidy wJ;cases e;refine perm_strKeys a (λp a=>?_) (sI T) (λx=>?_)
 .obtain⟨v,f⟩:=c p a;obtain⟨x, -,g, -⟩:=Maps.keyOf_str underlying9 f;exact⟨x,g⟩
 .rw[uB,(b x).1];simp
end
section
open Go.RowKit Go.Maps Go.Shelf Go.WideMaps
def zx (i:Nat):Nat:=match i with
 |0=>19|1=>20|2=>21|3=>22|4=>23|5=>24|6=>25|7=>26|8=>27|9=>28|10=>29|11=>30|_=>31
def Ec (i:Nat):Bs:=match i with
 |0=>[84]|1=>[84]|2=>[78,78,87]|3=>[78]|4=>[78,78,78]|5=>[78,87,84]|6=>[78,87]|7=>[]|8=>[]|9=>[84]|10=>[78,87]|11=>[]|_=>[]
abbrev cmV (PB i:Nat):au:=.agg #[bV (Ec i),.func (.func (zx i)) #[aI PB] #[]]
def cmL (PB:Nat)(k:FuncId)(f:aM):List au->List au->Option (DataW Unit×List MemPlace)
 |[.pointer (some a)],[]=>if a=⟨PB,0,none⟩/\∃i,i∈List.range 13/\k=zx i/\f=⟨(Ec i).toArray⟩ then some (.lit (.int .i64 k),[]) else none
 |_,_=>none
def cmC (PB:Nat):List au->Option (DataW Unit×List MemPlace)
 |[.string f,.func (.func k) a b]=>cmL PB k f a.toList b.toList
 |[.string f,.nilFunc]=>if f=⟨#[]⟩ then some (.lit (.int .i64 (-1)),[]) else none
 |_=>none
def cmE (PB:Nat):au->Option (DataW Unit×List MemPlace)
 | .agg a=>cmC PB a.toList
 |_=>none
theorem to1 {b:Type}{c:Array b}{a:b}(h:c.toList=[a]):c=#[a]:=by cases c;simp at h;rw[h]
theorem to0 {a:Type}{b:Array a}(h:b.toList=[]):b=#[]:=by cases b;simp at h;rw[h]
theorem to2 {c:Type}{d:Array c}{a b:c}(h:d.toList=[a,b]):d=#[a,b]:=by cases d;simp at h;rw[h]
theorem QU {PB:Nat}{v:au}{d:Int}{g:List MemPlace}(h:cmE PB v=some (.lit (.int .i64 d),g)):(∃i,i<13/\v=cmV PB i/\d=zx i)\/(v=.agg #[.string ⟨#[]⟩,.nilFunc]/\d= -1):=by
 unfold cmE at h;split at h
 .next o=>
  unfold cmC at h;split at h
  .next f k p q b=>
   unfold cmL at h;split at h
   .next a l m=>
    split at h
    .next c=>
     obtain⟨rfl,j,n,rfl,rfl⟩:=c;have e:(zx j:Int)=d:=by grind
     exact .inl ⟨j,List.mem_range.1 n,by rw[to2 b,to1 l,to0 m],e.symm⟩
    .cases h
   .cases h
  .next f b=>
   split at h
   .next c=>
    have e:(-1:Int)=d:=by grind
    exact .inr ⟨by rw[to2 b,c],e.symm⟩
   .cases h
  .cases h
 .cases h
theorem abr (PB i:Nat)(hi:i<13):cmE PB (cmV PB i)=some (.lit (.int .i64 (zx i)),[]):=by
 show(if _ then _ else _)=_;rw[if_pos ⟨rfl,i,List.mem_range.2 hi,rfl,rfl⟩]
theorem a7o:∀i,i<13->∀j,j<13->zx i=zx j->i=j:=aC
theorem a7p {PB i:Nat}(hi:i<13){v:au}{a:List MemPlace}(h:cmE PB v=some (.lit (.int .i64 (zx i)),a)):v=cmV PB i:=by
 rcases QU h with⟨j,b,rfl,c⟩|⟨-,c⟩
 .rw[a7o i hi j b aa]
 .omega
theorem a3c {PB:Nat}{v:au}{b:List MemPlace}(h:cmE PB v=some (.lit (.int .i64 (-1)),b)):v=.agg #[.string ⟨#[]⟩,.nilFunc]:=by
 rcases QU h with⟨j,c,rfl,a⟩|⟨a, -⟩
 .omega
 .exact a
def pF (w:ah)(PB B:Nat)(p:Bs->Option Nat)(n:Nat):Prop:=
 ∃D:DataW Unit,w.ownsMap prog 9 (cmE PB) B n D/\∀s,Maps.has D (.string s)=(p s).isSome/\∀i,p s=some i->i<13/\∀a,D.atKey (.string s) a=.lit (.int .i64 (zx i))
theorem pF.made (w:ah)(PB:Nat):pF (w.alloc (.map #[] 0)) PB w.heap.size (λ_=>none) 0:=
 ⟨.map [],World.ownsMap_made w _ _ _,λ_=>⟨rfl,λ_ h=>by cases h⟩⟩
theorem pF.same {w w':ah}{PB B n:Nat}{p:Bs->Option Nat}(h:pF w PB B p n)(a:w'.heap[B]? =w.heap[B]?):pF w' PB B p n:=by
 obtain⟨D,⟨b,c,d,e⟩,f⟩:=h;exact⟨D,⟨b,c,a.trans d,e⟩,f⟩
theorem pF.at {w:ah}{PB B n:Nat}{p:Bs->Option Nat}(h:pF w PB B p n):∃a b,w.heap[B]? =some (.map a b):=by
 obtain⟨D,⟨a,b,c, -⟩, -⟩:=h;grind
section
variable {w:ah}{PB B n:Nat}{p:Bs->Option Nat}{z:Array Oper}{rest:List Oper}{o:Oper}{a:Act}{Q:Exit->Act->ah->Prop}
theorem jr (h:pF w PB B p n)(m:n<maxLen)(s:Bs)(hs:s.length<=1000)(i:Nat)(hi:i<13):
  ∃w',(Instr.mapUpdate 51 (.map (some B)) (.string ⟨s.toArray⟩) (cmV PB i)).run prog w=.ok () w'/\pF w' PB B (λy=>if y=s then some i else p y) (n+1)/\w.mapTurned w' B:=by
 obtain⟨D,e,f⟩:=h;have a:keyOf prog 9 (.string ⟨s.toArray⟩)=some (.string s):=keyOf_string_mk underlying9 (s:=⟨s.toArray⟩) (by rw[gL];simp only[maxLen];omega);have g:WideAt.IsKeyLit (.string s):=by simp[WideAt.IsKeyLit]
 obtain⟨w',b,o,q⟩:=e.store wJ underlying51 m a (abr PB i hi);refine⟨w',b,⟨_,o,λy=>?_⟩,q⟩;by_cases k:y=s
 .subst k;simp only[if_pos];exact⟨has_put_same e.isMap g _,λj d=>by cases d;exact⟨hi,λl=>atKey_put_same e.isMap g _ _⟩⟩
 .simp only[if_neg k];have c:(Lit.string y)≠(Lit.string s):=by grind
  exact⟨(has_put_other c _).trans (f y).1,λj d=>⟨((f y).2 j d).1,λl=>(atKey_put_other c _ _).trans (((f y).2 j d).2 l)⟩⟩
theorem X6 (g:o.guard=none)(m x:Operand)(d:o.op=Op.lookup 51 m x true)(j:(zeroValue 60).run prog w=.ok (.agg #[.string ⟨#[]⟩,.nilFunc]) w)(k:a.eval m=.map (some B))(h:pF w PB B p n)(s:Bs)(hs:s.length<=1000000)(l:a.eval x=.string ⟨s.toArray⟩)
  (A:wpList prog z Q rest (a.put o.dst (.tuple #[match p s with|some i=>cmV PB i|none=>.agg #[.string ⟨#[]⟩,.nilFunc],.bool (p s).isSome])) w):wpList prog z Q (o::rest) a w:=by
 obtain⟨D,q,f⟩:=h;have b:keyOf prog 9 (.string ⟨s.toArray⟩)=some (.string s):=keyOf_string_mk underlying9 (s:=⟨s.toArray⟩) (by rw[gL];simp only[maxLen];omega);refine wpList_lookup_own_ok w g m x _ d _ _ wJ underlying51 (cmE PB) j (.lit (.int .i64 (-1))) [] rfl B n D k q _ (.string s) l b λv C c=>?_;rw[(f s).1];have e:v=(match p s with|some i=>cmV PB i|none=>.agg #[.string ⟨#[]⟩,.nilFunc]):=by
  cases r:p s with
  |none=>
   have t:Maps.has D (.string s)=false:=by grind
   rw[atKey_of_not_has t] at c;exact a3c c
  |some i=>
   obtain⟨u,y⟩:=(f s).2 i r;rw[y] at c;exact a7p u c
 grind
end
end
section
open Go.RowKit Go.Maps Go.Shelf Go.WideMaps Go.ChangeMaps
set_option maxRecDepth 20000
def wL (y:Bs):Option Nat:=if y=[99,111,117,110,116] then some 12 else if y=[112,105,101,99,101,115] then some 11 else if y=[115,116,121,108,101] then some 10 else if y=[102,105,110,100] then some 9 else if y=[116,101,120,116] then some 8 else if y=[115,104,111,119] then some 7 else if y=[117,110,115,101,116] then some 6 else if y=[115,101,116] then some 5 else if y=[109,111,118,101] then some 4 else if y=[114,101,109,111,118,101] then some 3 else if y=[97,100,100] then some 2 else if y=[115,104,101,101,116] then some 1 else if y=[111,112,101,110] then some 0 else none
theorem Zp {w w':ah}{B:Nat}(h:w.mapTurned w' B):w'.heap.size=w.heap.size/\(∀g,g≠B->w'.heap[g]? =w.heap[g]?)/\w'.os=w.os/\w'.tape=w.tape/\w'.output=w.output:=by
 obtain⟨e,f,a,b,c,rfl⟩:=h;exact⟨by simp[setBlock],λg d=>heap_setBlock_other c _ d,rfl,rfl,rfl⟩
theorem fU {w w':ah}{B N:Nat}{W:ah}(a:Below N W w)(h:w.mapTurned w' B)(i:N<=B):Below N W w':=by
 obtain⟨b,c,d,e,f⟩:=Zp h;exact⟨d.trans a.os,e.trans a.tape,f.trans a.output,by rw[b];exact a.size,λj g=>(c j aa).trans (a.block j g)⟩
theorem N8 (PB:Nat)(W:ah):
  aJ 14 #[aI PB] W λe w'=>∃B,e=ax (.map (some B))/\pF w' PB B wL 13/\Below W.heap.size W w':=by
 have o:=pF.made W PB;have p:Below W.heap.size W (W.alloc (.map #[] 0)):=(aQ _ W).alloc ay _;obtain⟨B,u⟩:∃B,W.heap.size=B:=⟨_,rfl⟩;rw[u] at o p;obtain⟨w1,R1,v,w⟩:=jr o aC [111,112,101,110] aC 0 aC;have x:=fU p w ay;obtain⟨w2,R2,y,z⟩:=jr v aC [115,104,101,101,116] aC 1 aC;have A:=fU x z ay;obtain⟨w3,R3,C,D⟩:=jr y aC [97,100,100] aC 2 aC;have E:=fU A D ay;obtain⟨w4,R4,F,H⟩:=jr C aC [114,101,109,111,118,101] aC 3 aC;have I:=fU E H ay;obtain⟨w5,R5,J,K⟩:=jr F aC [109,111,118,101] aC 4 aC;have L:=fU I K ay;obtain⟨w6,R6,M,N⟩:=jr J aC [115,101,116] aC 5 aC;have O:=fU L N ay;obtain⟨w7,R7,P,Q⟩:=jr M aC [117,110,115,101,116] aC 6 aC;have R:=fU O Q ay;obtain⟨w8,R8,S,T⟩:=jr P aC [115,104,111,119] aC 7 aC;have U:=fU R T ay;obtain⟨w9,R9,V,X⟩:=jr S aC [116,101,120,116] aC 8 aC;have Y:=fU U X ay;obtain⟨a4,q,a,b⟩:=jr V aC [102,105,110,100] aC 9 aC;have c:=fU Y b ay;obtain⟨a5,r,d,f⟩:=jr a aC [115,116,121,108,101] aC 10 aC;have g:=fU c f ay;obtain⟨a6,s,h,i⟩:=jr d aC [112,105,101,99,101,115] aC 11 aC;have j:=fU g i ay;obtain⟨k,t,l,m⟩:=jr h aC [99,111,117,110,116] aC 12 aC;have n:=fU j m ay;have Z:Hid (pF k PB B wL 13/\Below W.heap.size W k):=⟨l,by rw[u];exact n⟩;clear o v y C F J M P S V a d h l p x A E I L O R U Y c g j n w z D H K N Q T X b f i m;have a7:=@run_makeMap prog;simp only[cmV,zx,Ec] at R1 R2 R3 R4 R5 R6 R7 R8 R9 q r s t;go_enter func14,ntmps14;go_wp2_with fail;go_ret;exact⟨B,rfl,Z.out.1,Z.out.2⟩
end
section
open Go.RowKit Go.Maps Go.Shelf
set_option maxRecDepth 20000
def Sw (s:Bs):Bs:=if s=[115,104,101,101,116] then[115,104,101,101,116,32] else s
def jH (s:Bs):Option (Nat×Ps):=match wL (Lib.cut (Sw s) [32]).1 with
 |none=>none
 |some i=>(iP (Ec i) ⟨(Lib.cut (Sw s) [32]).2.1,(Lib.cut (Sw s) [32]).2.2,[],[],[]⟩).map λp=>(i,p)
abbrev cm0:au:=.agg #[ak ⟨#[]⟩,.nilFunc]
abbrev pr0:au:=.agg #[aj none 0 0,ak ⟨#[]⟩,ak ⟨#[]⟩]
def LnR (E:Nat->Addr)(PB B:Nat)(r:Option (Nat×Ps))(e:Ending)(w:ah):Prop:=match r with
 |none=>e=ax (aF #[cm0,pr0,eV (E 1)])
 |some (i,p)=>∃o a,e=ax (aF #[cmV PB i,.agg (j6 o p.ns.length a p.nm p.tx),aU])/\w.ownsRow B 3 1 (aj o p.ns.length a) p.ns.length (bO p.ns)
theorem a3d:∀i,i<13->(∀c∈Ec i,c.toNat<128)/\(Ec i).length<=1000:=aC
theorem abt {c:Prop}[Decidable c]{k n i:Nat}{e:Option Nat}(a:k<n)(he:e=some i->i<n):(if c then some k else e)=some i->i<n:=by grind
theorem N9 {y:Bs}{i:Nat}(h:wL y=some i):i<13:=by
 unfold wL at h;revert h
 iterate 13 refine abt aC ?_
 grind
theorem a3e (w:ah):(zeroValue 60).run prog w=.ok (.agg #[ak ⟨#[]⟩,.nilFunc]) w:=az
theorem faR {w:ah}{R L g:Nat}{a b c d e v:au}{t u:TypeId}(h:w.heap[R]? =some (ai #[a,b] t))(k:w.heap[L]? =some (ai #[c,d,e] u))(_:w.cell? (aH g 0)=some v)(f:g<R)(i:R<L):
  w.cell? (aH R 0)=some a/\w.cell? (aH R 1)=some b/\w.cell? (aH L 0)=some c/\w.cell? (aH L 1)=some d/\w.cell? (aH L 2)=some e/\w.frozen? ⟨R,0,none⟩=false/\w.frozen? ⟨R,1,none⟩=false/\w.frozen? ⟨L,0,none⟩=false/\w.frozen? ⟨L,1,none⟩=false/\w.frozen? ⟨L,2,none⟩=false/\g<L/\R≠g/\L≠g/\L≠R/\R≠L:=
 ⟨aO h 0 _ rfl,aO h 1 _ rfl,aO k 0 _ rfl,aO k 1 _ rfl,aO k 2 _ rfl,bq h 0,bq h 1,bq k 0,bq k 1,bq k 2,aa,aa,aa,aa,aa⟩
theorem abu {W w:ah}{R L B:Nat}{a b c d e:au}{t u:TypeId}(h:w.heap[R]? =some (ai #[a,b] t))(k:w.heap[L]? =some (ai #[c,d,e] u))(hne:L≠R)(j:B<=R)(i:B<=L)(m:Below B W w)(x y p q r:au):
  ∀U,(((((w.setCell ⟨R,0,none⟩ x).setCell ⟨R,1,none⟩ y).setCell ⟨L,0,none⟩ p).setCell ⟨L,1,none⟩ q).setCell ⟨L,2,none⟩ r).drew=U->U.cell? (aH R 0)=some x/\U.cell? (aH R 1)=some y/\U.cell? (aH L 0)=some p/\U.cell? (aH L 1)=some q/\U.cell? (aH L 2)=some r/\Below B W U:=by
 have n:=wB (wB h 0 x) 1 y;have o:((w.setCell ⟨R,0,none⟩ x).setCell ⟨R,1,none⟩ y).heap[L]? =some (ai #[c,d,e] u):=by rw[heap_setCell_other _ _ _ _ hne,heap_setCell_other _ _ _ _ hne];exact k
 have g:=wB (wB (wB o 0 p) 1 q) 2 r;have f:=(((heap_setCell_other _ ⟨L,2,none⟩ R r (Ne.symm hne)).trans (heap_setCell_other _ ⟨L,1,none⟩ R q (Ne.symm hne))).trans (heap_setCell_other _ ⟨L,0,none⟩ R p (Ne.symm hne))).trans n;have l:=((((m.setCell (p:=⟨R,0,none⟩) j x).setCell (p:=⟨R,1,none⟩) j y).setCell (p:=⟨L,0,none⟩) i p).setCell (p:=⟨L,1,none⟩) i q).setCell (p:=⟨L,2,none⟩) i r;generalize ((((w.setCell ⟨R,0,none⟩ x).setCell ⟨R,1,none⟩ y).setCell ⟨L,0,none⟩ p).setCell ⟨L,1,none⟩ q).setCell ⟨L,2,none⟩ r=X at f g l⊢;rintro U rfl;exact⟨aO (w:=X.drew) f 0 _ rfl,aO (w:=X.drew) f 1 _ rfl,aO (w:=X.drew) g 0 _ rfl,aO (w:=X.drew) g 1 _ rfl,aO (w:=X.drew) g 2 _ rfl,below_drewN l 1⟩
theorem Na {E:Nat->Addr}{W:ah}(hE:NE E W)(hm:Sq W){PB MB n:Nat}(hC:pF W PB MB wL n)(s:Bs)(hs:s.length<=100000):
  aJ 32 #[.map (some MB),bV s] W λe w'=>LnR E PB W.heap.size (jH s) e w'/\Below W.heap.size W w':=by
 have X:=aA hE;have HX:=aA hm;have HC:=aA hC;obtain⟨Z,hZ⟩:∃Z,jH s=Z:=⟨_,rfl⟩;have HZ:Hid (Z=jH s):=hZ.symm;rw[hZ];have u:(Sw s).length<=1000000:=by
  unfold Sw;split
  .decide
  .omega
 clear hE hm hC hZ hs;go_enter func32,ntmps32;go_upto_region 1 with fail;have z:=dI W (ai #[ak ⟨#[]⟩,.nilFunc] 60);have w:=dI (W.alloc (ai #[ak ⟨#[]⟩,.nilFunc] 60)) (ai (j6 none 0 0 [] []) 62);have l:=(w.block _ (aY (dN W #[ak ⟨#[]⟩,.nilFunc] 60))).trans (dN W #[ak ⟨#[]⟩,.nilFunc] 60);have d:=dN (W.alloc (ai #[ak ⟨#[]⟩,.nilFunc] 60)) (j6 none 0 0 [] []) 62;rw[dK] at d;have bW:=aW z w;have c5:∃V,(W.alloc (ai #[ak ⟨#[]⟩,.nilFunc] 60)).alloc (ai #[aj none 0 0,ak ⟨#[]⟩,ak ⟨#[]⟩] 62)=V/\(W.alloc (ai #[ak ⟨#[]⟩,.nilFunc] 60)).alloc (ai (j6 none 0 0 [] []) 62)=V:=⟨_,rfl,rfl⟩;obtain⟨V,hV,b5⟩:=c5;have NC:V.heap.size=W.heap.size+1+1:=by rw[<- hV,dK,dK]
 rw[b5] at l d bW;rw[hV];obtain⟨R,hR⟩:∃R,W.heap.size=R:=⟨_,rfl⟩;obtain⟨L,hL⟩:∃L,R+1=L:=⟨_,rfl⟩;unfold aD at bW;rw[hR] at l d NC bW⊢;rw[hL] at d NC⊢;have HS:Hid (W.heap.size=R/\R+1=L/\L+1=V.heap.size):=⟨hR,hL,NC.symm⟩;have J:Hid (V.heap[R]? =some (ai #[ak ⟨#[]⟩,.nilFunc] 60)/\V.heap[L]? =some (ai (j6 none 0 0 [] []) 62)/\Below R W V):=⟨l,d,bW⟩;clear hV b5 hR hL z w bW l d NC;have Y:=iL s [115,104,101,101,116];have c6:∃t:Bs,Sw s=t/\((s==[115,104,101,101,116])=true/\t=[115,104,101,101,116,32]\/(s==[115,104,101,101,116])=false/\t=s):=by
  unfold Sw;by_cases h:s=[115,104,101,101,116]
  .exact⟨_,rfl,.inl ⟨beq_iff_eq.2 h,if_pos h⟩⟩
  .exact⟨_,rfl,.inr ⟨dL.2 h,if_neg h⟩⟩
 obtain⟨t,ht,hk⟩:=c6;rw[ht] at u;have HT:=aA ht;have CT:=Ae t [32] u V (HX.out.below (by unfold aD;rw[HS.out.1];exact J.out.2.2));have b6:Hid ((Lib.cut t [32]).2.1.length<=1000000):=bu (vF t [32]) u;have a4:(Lib.cut t [32]).1.length<=1000000:=bu (o8 t [32]) u;obtain⟨c1,B⟩:∃c,(Lib.cut t [32]).1=c:=⟨_,rfl⟩;obtain⟨c2,F⟩:∃c,(Lib.cut t [32]).2.1=c:=⟨_,rfl⟩;obtain⟨c3,a5⟩:∃c,(Lib.cut t [32]).2.2=c:=⟨_,rfl⟩;rw[B,F,a5] at CT;rw[F] at b6;rw[B] at a4;have a6:Hid (Z=match wL c1 with|none=>none|some i=>(iP (Ec i) ⟨c2,c3,[],[],[]⟩).map λp=>(i,p)):=by
  show Z=_;rw[HZ.out];unfold jH;rw[HT.out,B,F,a5]
 clear ht u B F a5 HZ HT;rcases hk with⟨he,rfl⟩|⟨he,rfl⟩
 all_goals
  rw[he] at Y;go_upto_region 4 with(go_at_call 59;refine CT.mono ?_;rintro e H ⟨rfl,z⟩);have f:=HS.out;have a7:Below R W H:=J.out.2.2.trans (z.mono aa);have CM:pF H PB MB wL n:=by
   obtain⟨es,cl,h1⟩:=HC.out.at;exact HC.out.same (a7.block MB (by have:=aY h1;omega))
  cases hq:wL c1 with
  |none=>
   go_upto_region 6 with(at_lookup;refine X6 rfl _ _ rfl (a3e _) rfl CM c1 a4 rfl ?_);have w:=dI H (ai #[ak ⟨#[]⟩,.nilFunc] 60);have c7:Z=none:=by rw[a6.out,hq]
   generalize H.alloc (ai #[ak ⟨#[]⟩,.nilFunc] 60)=w2 at w⊢;have a:=z.trans (w.mono z.size);have l:=(a.block R aa).trans J.out.1;have d:=(a.block L aa).trans J.out.2.1;have K:Below R W w2:=J.out.2.2.trans (a.mono aa);have x:=(NE.below X.out (K.mono (Nat.le_of_eq f.1))).c1;have b:=aR (NE.c1 X.out);rw[f.1] at b;obtain⟨M,N,O,Q,S,f0,f1,g0,g1,g2,n1,n2,n3,n4,n5⟩:=faR l d x b aa;have FN:=abu l d n4 ay aa K (ak ⟨#[]⟩) .nilFunc (aj none 0 0) (ak ⟨#[]⟩) (ak ⟨#[]⟩);clear CT CM hq z w a a7 l d Y he;go_region;go_wp2_with fail;obtain⟨M,N,O,Q,S,rb⟩:=FN _ rfl;refine bodyPost_ret (v:=aF #[cm0,pr0,eV (E 1)]) (by simp[results,results32,go_sem,M,N,O,Q,S]) rfl ⟨rfl,rb⟩
  |some i=>
   have hi:=N9 hq;have b7:Z=(iP (Ec i) ⟨c2,c3,[],[],[]⟩).map λp=>(i,p):=by rw[a6.out,hq]
   have b8:=aA b7;have w:=dI H (ai #[bV (Ec i),.func (.func (zx i)) #[aI PB] #[]] 60);have kC:=dN H #[bV (Ec i),.func (.func (zx i)) #[aI PB] #[]] 60;have b9:=dK H (ai #[bV (Ec i),.func (.func (zx i)) #[aI PB] #[]] 60);clear b7;go_upto_region 6 with(at_lookup;refine X6 rfl _ _ rfl (a3e _) rfl CM c1 a4 rfl ?_);generalize H.alloc (ai #[bV (Ec i),.func (.func (zx i)) #[aI PB] #[]] 60)=w2 at w kC b9⊢;obtain⟨C,hC⟩:∃C,H.heap.size=C:=⟨_,rfl⟩;have c0:=z.size;have a:=z.trans (w.mono c0);rw[hC] at kC b9 c0⊢;have l:=(a.block R aa).trans J.out.1;have d:=(a.block L aa).trans J.out.2.1;have K:Below R W w2:=J.out.2.2.trans (a.mono aa);have a8:Below W.heap.size W w2:=by rw[f.1];exact K
   have RP:=Ju (NE.below X.out a8) (HX.out.below a8) (Ec i) c2 c3 (a3d i hi).1 b6.out (a3d i hi).2;obtain⟨P,hP⟩:∃P,iP (Ec i) ⟨c2,c3,[],[],[]⟩=P:=⟨_,rfl⟩;have I:Z=P.map λp=>(i,p):=by rw[b8.out,hP]
   rw[hP] at RP;clear CT CM hq z w a a7 Y he a6 b8 a8 hP;cases P with
   |none=>
    go_upto_region 9 with(go_at_call 60;refine RP.mono ?_;rintro e T ⟨⟨o,m,q,nm,tx,rfl⟩,b3⟩);have U:=dI T (ai (j6 o m q nm tx) 62);have a9:=b3.size;generalize T.alloc (ai (j6 o m q nm tx) 62)=y at U⊢;have A:=b3.trans (U.mono a9);have j:=(A.block R aa).trans l;have k:=(A.block L aa).trans d;have r:Below R W y:=K.trans (A.mono aa);have x:=(NE.below X.out (r.mono (Nat.le_of_eq f.1))).c1;have b:=aR (NE.c1 X.out);rw[f.1] at b;obtain⟨M,N,O,Q,S,f0,f1,g0,g1,g2,n1,n2,n3,n4,n5⟩:=faR j k x b aa;have FN:=abu j k n4 ay aa r (ak ⟨#[]⟩) .nilFunc (aj none 0 0) (ak ⟨#[]⟩) (ak ⟨#[]⟩);have c7:Z=none:=I;clear RP b3 U A K l d kC j k I;go_region;go_wp2_with fail;obtain⟨M,N,O,Q,S,rb⟩:=FN _ rfl;refine bodyPost_ret (v:=aF #[cm0,pr0,eV (E 1)]) (by simp[results,results32,go_sem,M,N,O,Q,S]) rfl ⟨rfl,rb⟩
   |some P=>
    go_upto_region 10 with(go_at_call 60;refine RP.mono ?_;rintro e T ⟨⟨o,q,rfl,ow⟩,b3⟩);have U:=dI T (ai (j6 o P.ns.length q P.nm P.tx) 62);have kD:=dN T (j6 o P.ns.length q P.nm P.tx) 62;have a9:=b3.size;have c4:=dK T (ai (j6 o P.ns.length q P.nm P.tx) 62);generalize T.alloc (ai (j6 o P.ns.length q P.nm P.tx) 62)=y at U kD c4⊢;obtain⟨D,hD⟩:∃D,T.heap.size=D:=⟨_,rfl⟩;have TC:=bD ow U;rw[hD] at kD a9 c4⊢;have A:=b3.trans (U.mono aa);have j:=(A.block R aa).trans l;have k:=(A.block L aa).trans d;have b0:=(A.block C aa).trans kC;have r:Below R W y:=K.trans (A.mono aa);have x:=(NE.below X.out (r.mono (Nat.le_of_eq f.1))).c1;have b:=aR (NE.c1 X.out);rw[f.1] at b;obtain⟨M,N,O,Q,S,f0,f1,g0,g1,g2, -, -, -,n4,n5⟩:=faR j k x b aa;have q0:y.cell? (aH C 0)=some (bV (Ec i)):=aO b0 0 _ rfl;have q1:y.cell? (aH C 1)=some (.func (.func (zx i)) #[aI PB] #[]):=aO b0 1 _ rfl;have d0:y.cell? (aH D 0)=some (aj o P.ns.length q):=aO kD 0 _ rfl;have d1:y.cell? (aH D 1)=some (bV P.nm):=aO kD 1 _ rfl;have d2:y.cell? (aH D 2)=some (bV P.tx):=aO kD 2 _ rfl;have m1:C≠R:=aa;have m2:R≠C:=aa;have m3:C≠L:=aa;have m4:L≠C:=aa;have m5:D≠R:=aa;have m6:R≠D:=aa;have m7:D≠L:=aa;have m8:L≠D:=aa;have FN:=abu j k n4 ay aa r (bV (Ec i)) (.func (.func (zx i)) #[aI PB] #[]) (aj o P.ns.length q) (bV P.nm) (bV P.tx);have c8:∀g,w2.heap.size<=g->(((((y.setCell ⟨R,0,none⟩ (bV (Ec i))).setCell ⟨R,1,none⟩ (.func (.func (zx i)) #[aI PB] #[])).setCell ⟨L,0,none⟩ (aj o P.ns.length q)).setCell ⟨L,1,none⟩ (bV P.nm)).setCell ⟨L,2,none⟩ (bV P.tx)).heap[g]? =y.heap[g]? :=λg hg=>by
     have e1:g≠L:=aa;have e2:g≠R:=aa;rw[heap_setCell_other _ _ _ _ e1,heap_setCell_other _ _ _ _ e1,heap_setCell_other _ _ _ _ e1,heap_setCell_other _ _ _ _ e2,heap_setCell_other _ _ _ _ e2]
    have HO:Hid (Z=some (i,P)/\y.ownsRow w2.heap.size 3 1 (aj o P.ns.length q) P.ns.length (bO P.ns)/\R<=w2.heap.size):=⟨I,TC,aa⟩;clear RP b3 U A K l d kC j k b0 kD I ow TC r;go_region;go_wp2_with fail;obtain⟨M,N,O,Q,S,rb⟩:=FN _ rfl;obtain⟨z1,z2,z3⟩:=HO.out;refine bodyPost_ret (v:=aF #[cmV PB i,.agg (j6 o P.ns.length q P.nm P.tx),aU]) (by simp[results,results32,go_sem,M,N,O,Q,S]) rfl ⟨?_,rb⟩;rw[z1];exact⟨o,q,rfl,(di (Py z2 z3) λg hg=>c8 g (z2.lt g hg).1).drew⟩
end
section
variable {z A:Dm}{r:Int->Nat}
def szM (M:Dm)(f:Nat)(i:Int):Nat:=(pre M f i 0).length
theorem X8 (M:Dm):∀(f:Nat) (i d a:Int),(pre M f i d).length=(pre M f i a).length
 |0,_,_,_=>rfl
 |f+1,i,d,a=>by
  rw[pre,pre];cases M i with
  |none=>rfl
  |some e=>
   simp only[eP,List.length_flatMap];congr 2;exact List.map_congr_left λk _=>X8 M f k _ _
theorem aby {M:Dm}{f:Nat}{i:Int}{e:gP}(he:M i=some e):szM M (f+1) i=(e.kids.map (szM M f)).sum+1:=by
 unfold szM;rw[pre,he];simp only[eP,List.length_flatMap];congr 2;exact List.map_congr_left λk _=>X8 M f k _ _
end
def J7 (M:Dm):Nat->Int->Nd
 |0,_=>.mk [] [] []
 |f+1,n=>match M n with
  |none=>.mk [] [] []
  |some e=>.mk e.name e.ats (e.kids.map (J7 M f))
def F2 (R:Int->Int->Prop):List Int->List Int->Prop
 |[],[]=>True
 |a::l,b::m=>R a b/\F2 R l m
 |_,_=>False
variable {M z:Dm}{r:Int->Nat}{L:List Int}
