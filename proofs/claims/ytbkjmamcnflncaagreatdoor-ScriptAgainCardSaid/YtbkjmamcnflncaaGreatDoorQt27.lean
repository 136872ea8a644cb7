import Derived.Test.YtbkjmamcnflncaaGreatDoorQt26
namespace Go.Proofs.YtbkjmamcnflncaaGreatDoor
open Go.Proofs.Tryz
set_option maxHeartbeats 8000000
variable{w:ai}{E:Nat->Addr}
section
open Go.RowKit
set_option maxRecDepth 100000
theorem a3N:(prog.info? 187).map (·.size)=some 2:=aA
theorem acn:liesAt prog prog.depth 187 (2/prog.cellsOf 187) 0 187 1=true:=aA
theorem Vt (b:Nat)(w:ai)(c:w.cell? (aJ b 0)=some (aK b)):
  aL 156 #[aK b] w λe w'=>e=ay (aH #[])/\w'=w:=by
 obtain⟨j,a, -⟩:=ni.1 a3N;go_enter func156,ntmps156;go_wp2;rw[Lib.run_neq_ptr_same w _ underlying184 a];go_wp2
 go_end0
 exact⟨rfl,rfl⟩
theorem RQ (b:Nat)(w:ai)(d:w.cell? (aJ b 0)=some (.pointer none))(hs:w.shape? b=some (187,2))(f:w.frozen? ⟨b,0,none⟩=false):
  aL 156 #[aK b] w λe w'=>e=ay (aH #[])/\w'=w.setCell ⟨b,0,none⟩ (aK b):=by
 obtain⟨j,c,a⟩:=ni.1 a3N;go_enter func156,ntmps156;go_wp2;rw[Lib.run_to_unsafe w ⟨b,0,none⟩ underlying184 underlying124 c (by rw[a];decide) hs (Nat.zero_lt_succ 1)];simp only[Result.andThen];rw[Oper.upon_value];go_wp2;rw[run_callFunc_extern func223 aA aA aA (e:=Extern.AbiNoEscape.same) aA,Lib.run_noEscape];simp only[Result.andThen];rw[Oper.upon_value];go_wp2;rw[Lib.run_from_unsafe w ⟨b,0,none⟩ underlying124 underlying184 c hs acn];simp only[Result.andThen];rw[Oper.upon_value];go_wp2
 go_end0
 exact⟨rfl,rfl⟩
abbrev BdP (B b:Nat)(l:List UInt8)(w:ai):Prop:=Lib.IsBuilderF 187 5 B b (Lib.byteCells l) w
structure NS (B b:Nat)(w w':ai):Prop where
 low:Below B w w'
 oth:Lib.OthersKept 5 (some b) w w'
theorem NS.trans {B b:Nat}{w' a:ai}(h:NS B b w w')(k:NS B b w' a):NS B b w a:=⟨h.low.trans k.low,h.oth.trans k.oth⟩
theorem NS.refl (B b:Nat)(w:ai):NS B b w w:=⟨aW _ _,Lib.OthersKept.refl _ _ _⟩
theorem ZZ (B b:Nat)(l:List UInt8)(w:ai)(h:BdP B b l w):aL 156 #[aK b] w λe w'=>e=ay (aH #[])/\Lib.BuilderAtF 187 5 B b (aK b) (Lib.byteCells l) w'/\NS B b w w':=by
 rcases h with h|h
 .refine(RQ b w h.cell0 h.shape h.frozen0).mono ?_;rintro e w' ⟨rfl,rfl⟩;exact⟨rfl,h.used _,(aW B w).setCell (p:=⟨b,0,none⟩) h.1 _,(Lib.OthersKept.refl _ _ w).setCell ⟨b,0,none⟩ rfl _⟩
 .refine(Vt b w h.cell0).mono ?_;rintro e w' ⟨rfl,rfl⟩;exact⟨rfl,h,NS.refl _ _ _⟩
theorem a00:(prog.info? 5).map (λi=>(i.zero,i.size,i.bytes))=some (some (.int .u8 0),1,1):=aA
theorem a01 {B:Nat}{e:TypeId}{v:ax}{n:Nat}{b:List ax}(h:w.ownsRowF B e 1 v n b):∃c d a,v=aj c d a:=by
 rcases h.2 with⟨f,_⟩|⟨g,a,i,j,f,_⟩
 .grind
 .grind
theorem RU {b:Nat}{o:Obj}(h:w.heap[b]? =some o):b<w.heap.size:=(eY.1 h).1
theorem a02 (w:ai)(x:ax)(t:TypeId):∀j u,[x][j]? =some u->(w.alloc (ak #[x] t)).cell? ((⟨w.heap.size,0,none⟩:Addr).add j)=some u:=by
 intro j u h
 match j,h with
 |0,h=>simp at h;subst h;show(w.alloc (ak #[x] t)).cell? ⟨w.heap.size,0,none⟩=some x;simp
theorem IM (B b:Nat)(l:List UInt8)(c:UInt8)(w:ai)(h:BdP B b l w)(L:l.length+1<=1000000000)(M:B<=w.heap.size):
  aL 92 #[aK b,.int .u8 c.toNat] w λe w'=>e=ay aY/\BdP B b (l++[c]) w'/\NS B b w w':=by
 obtain⟨E,F,s,t,x⟩:=info_parts a00;have n:(Lib.byteCells l).length=l.length:=by simp[Lib.byteCells]
 have H:=ZZ B b l w h;go_enter func92,ntmps92;go_wp2_with(first|(at_builtin;refine wpList_append_ownF _ rfl _ _ 185 rfl B 5 E (.int .u8 0) 1 1 underlying185 F s t x rfl aC _ _ _ rfl (d.alloc _) ⟨m.heap.size,0,none⟩ 1 1 [.int .u8 c.toNat] rfl rfl (a02 m _ _) (λu D=>by simp at D;subst D;rfl) (by rw[n,show maxLen=9223372036854775807 from by decide];omega) (by rw[n];omega) bq ?_;intro I r f a _;have i:r.heap[b]? =some (ak #[aK b,v] 187 (0,0)):=(by rw[a.block b (by have:=RU g;simp;omega) (λe=>y e.symm),Lib.alloc_old m _ b (RU g)];exact g);have N:r.cell? (aJ b 1)=some v:=(by rw[Lib.cell_of_heap i];rfl);have O:r.frozen? ⟨b,1,none⟩=false:=Lib.frozen_of_heap i 1;obtain⟨z,A,j,rfl⟩:∃z A j,I=aj z A j:=a01 f)|(go_at_call 156;refine H.mono ?_;rintro e m ⟨rfl,⟨o,v,g,d,y⟩,q⟩;have P:m.cell? (aJ b 1)=some v:=(by rw[Lib.cell_of_heap g];rfl);have Q:=q.low.size));go_ret;have C:r.ownsRowF B 5 1 (aj z A j) (Lib.byteCells (l++[c])).length (Lib.byteCells (l++[c])):=by
  have J:Lib.byteCells (l++[c])=Lib.byteCells l++[.int .u8 c.toNat]:=by rw[Lib.byteCells_append];rfl
  rw[J,dO];exact f
 refine⟨rfl,.inr (Lib.BuilderAtF.put (T:=187) (e:=5) o i C aC),q.trans ⟨?_,?_⟩⟩
 .exact(((aW B m).alloc aa _).grown a bq (λk K=>(d.lt k K).1)).setCell (p:=⟨b,1,none⟩) o _
 .exact(((Lib.OthersKept.refl _ _ m).alloc _).grown a (Lib.ownsRowF_kind (d.alloc _))).setCell ⟨b,1,none⟩ rfl _
theorem BdP.fresh (B:Nat)(w:ai)(a:B<=w.heap.size):BdP B w.heap.size [] (w.alloc (ak #[.pointer none,aj none 0 0] 187)):=
 .inl ⟨a,aj none 0 0,fE w _,World.ownsRowF_of (gp _ _ _ _),by simp[Value.ownBlock]⟩
end
section
open Go.RowKit
set_option maxRecDepth 20000
def oH (w:ai)(o:Option Addr)(l:List aO):Prop:=∀i s,l[i]? =some s->∃b a,o=some ⟨b,a,none⟩/\w.cell? (aJ b (a+i))=some (au s)
theorem oH.below {w w':ai}{o:Option Addr}{l:List aO}(h:oH w o l)(d:aD w w'):oH w' o l:=λi s e=>by
 obtain⟨b,a,f,c⟩:=h i s e;exact⟨b,a,f,(d.cell (aX c)).trans c⟩
theorem oH.own {b:Nat}{v:ax}{n:Nat}{l:List aO}(h:w.ownsRow b 9 1 v n (l.map au)):∃o a,v=aj o l.length a/\l.length=n/\l.length<=a/\oH w o l:=by
 have c:l.length=n:=by have:=h.1;rw[dP,Nat.mul_one] at this;exact this
 have e:=h;rcases h.2 with⟨rfl,k⟩|⟨g,a,f,rfl, -, -,j, -⟩
 .have:l=[]:=by grind
  subst this;exact⟨none,0,rfl,c,bJ _,λi s d=>by simp at d⟩
 .refine⟨_,a,by rw[c],c,aa,λi s d=>⟨g,0,rfl,?_⟩⟩;have:=Bu e i (au s) (by rw[jv,d];rfl);rw[addr_add] at this;exact this
def agU (a b:List aO)(e:Ending):Prop:=(a=b/\e=ay (.bool true))\/(a≠b/\e=ay (.bool false))
theorem Kg (a b:List aO)(t u:Option Addr)(z A:Nat)(w:ai)(B:a.length<=10000)(C:oH w t a)(D:oH w u b):
  aL 12 #[aj t a.length z,aj u b.length A] w λe W=>agU a b e/\aD w W:=by
 by_cases c:a.length=b.length
 .have f:((a.length:Int)==(b.length:Int))=true:=by rw[c];simp
  have n:((a.length:Int) !=(b.length:Int))=false:=by rw[c];simp
  have o:=aF c;clear c;go_enter func12,ntmps12;go_wp2_with fail
  go_loopw [5] (λi wr=>∃k:Nat,k<=a.length/\i=ag k/\a.take k=b.take k/\aD w wr) (λi _=>a.length-(intOf i).toNat)
  case atStart=>exact⟨0,bA _,rfl,rfl,aW _ _⟩
  case round=>
   obtain⟨k,N,rfl,d,l⟩:=hrel;by_cases p:k<a.length
   .have v:(k:Int)<(a.length:Int):=aa;have E:(k:Int)<(b.length:Int):=by have:=o.out;omega
    obtain⟨x,q⟩:∃x,a[k]? =some x:=⟨_,fD p⟩;obtain⟨y,r⟩:∃y,b[k]? =some y:=⟨_,fD (by have:=o.out;omega)⟩;obtain⟨F,H,rfl,I⟩:=C.below l k x q;obtain⟨J,K,rfl,L⟩:=D.below l k y r;have m:Hid (a[k]? =some x/\b[k]? =some y):=⟨q,r⟩;clear q r;have O:wr.drew.cell? (aJ F (H+k))=some (au x):=I;have P:wr.drew.cell? (aJ J (K+k))=some (au y):=L;by_cases g:x=y
    .subst g;go_upto_region 6 with fail;go_region
     all_goals
      go_wp2_with fail
      go_roundw
      case rel=>exact⟨k+1,aa,by go_num,by rw[eX,eX,d,m.out.1,m.out.2],l.drew⟩
      case measure=>simp[intOf];omega
    .have M:(x.toList==y.toList)=false:=dW.2 (λh=>g (ba_eq h));have j:a≠b:=λh=>g (by
      have:=m.out.1;rw[h,m.out.2] at this;cases this;rfl)
     go_upto_region 6 with fail;go_region
     all_goals
      go_wp2_with fail;go_ret;exact⟨.inr ⟨j,rfl⟩,l.drew⟩
   .obtain rfl:k=a.length:=aa;have s:a=b:=by
     rw[gJ] at d;rw[o.out,gJ] at d;exact d
    go_wp2_with fail;go_ret;exact⟨.inl ⟨s,rfl⟩,l⟩
 .have j:a≠b:=λh=>c (by rw[h]);have f:((a.length:Int)==(b.length:Int))=false:=by rw[dW];omega
  have n:((a.length:Int) !=(b.length:Int))=true:=by rw[bne,f];rfl
  clear c;go_enter func12,ntmps12;go_wp2_with fail;go_ret;exact⟨.inr ⟨j,rfl⟩,aW _ _⟩
theorem IQ (a b:List aO)(c d:Option Addr)(g i:Nat)(w:ai)(f:a.length<=10000)(k:oH w c a)(l:oH w d b)(m:a=b):
  aL 12 #[aj c a.length g,aj d b.length i] w λe W=>e=ay (.bool true)/\aD w W:=by
 refine(Kg a b c d g i w f k l).mono λe W h=>?_;rcases h.1 with⟨-,j⟩|⟨j, -⟩
 .exact⟨j,h.2⟩
 .grind
end
open Go.RowKit Go.Shelf
def Bv (s:aO):Option Int:=if 7<s.size then none else match Lib.atoiAll s.data.toList with
 | .ok v=>if 0<=v/\Lib.itoa v=s.data.toList then some v else none
 |_=>none
def agW (s:aO)(e:Ending):Prop:=∃v u,e=ay (aH #[ag v,u])/\((Lib.atoiAll s.data.toList=.ok v/\u=aY)\/((∀x,Lib.atoiAll s.data.toList≠.ok x)/\∃t y,u=aU t y))
theorem a3O (h:NE E w)(s:aO)(hs:s.size<=1000000):aL 176 #[au s] w λe w'=>agW s e/\aD w w':=by
 cases b:Lib.atoiAll s.data.toList with
 |«syntax»=>
  obtain⟨a,g⟩:=h.sy;refine(Tryz.strconv_Atoi_syntax s aa b (eV a) w g (.inr ⟨_,_,rfl⟩)).mono ?_;rintro e f ⟨i,rfl, -, -,d⟩;exact⟨⟨_,_,rfl,.inr ⟨(λx c=>by rw[b] at c;cases c),_,_,rfl⟩⟩,d⟩
 |range=>
  obtain⟨a,k⟩:=h.rg;refine(Tryz.strconv_Atoi_range s aa b (eV a) w k (.inr ⟨_,_,rfl⟩)).mono ?_;rintro e f ⟨i,rfl, -, -,d⟩;exact⟨⟨_,_,rfl,.inr ⟨(λx c=>by rw[b] at c;cases c),_,_,rfl⟩⟩,d⟩
 |ok v=>
  refine(Tryz.strconv_Atoi_ok s aa v b w).mono ?_;rintro e f ⟨rfl,l⟩;refine⟨⟨_,_,rfl,.inl ⟨b,rfl⟩⟩,?_⟩
  .rcases l with rfl|⟨t,rfl⟩
   .exact aW _ _
   .exact⟨rfl,rfl,rfl,by rw[Lib.bytesWorld_size];omega,λj m=>Lib.bytesWorld_at_old w _ _ j m⟩
theorem a8b {s:aO}{v:Int}(h:Bv s=some v):kU v/\0<=v:=by
 unfold Bv at h;split at h
 .cases h
 .split at h
  .next x a=>
   split at h
   .next b=>cases h;exact⟨Lib.atoiAll_bounds a,b.1⟩
   .cases h
  .cases h
theorem IU (h:NE E w)(s:aO):
  aL 114 #[au s] w λe w'=>e=ay (aH #[ag ((Bv s).getD 0),.bool (Bv s).isSome])/\aD w w':=by
 by_cases j:7<s.size
 .have a:Bv s=none:=by unfold Bv;rw[aR j]
  have k:(7:Int)<(s.size:Int):=aa;rw[a];clear h a;go_enter func114,ntmps114;go_wp2_with fail
  go_ret2
  exact⟨rfl,aW _ _⟩
 have k:(s.size:Int)<=7:=aa;have p:=a3O h s aa;have q:=aF h;have f:=aF j;obtain⟨m,a⟩:∃m,Bv s=m:=⟨_,rfl⟩;rw[a];have g:=aF a;clear a h j;go_enter func114,ntmps114;go_upto_region 4 with(go_at_call 176;refine p.mono ?_;rintro e r ⟨z,d⟩;obtain⟨v,u,rfl,A⟩:=z);rcases A with⟨b,rfl⟩|⟨b,t,y,rfl⟩
 .have B:=Lib.atoiAll_bounds b;by_cases F:v<0
  .have a:m=none:=by
    rw[<- g.out];unfold Bv;rw[aG f.out,b];simp only;rw[aG (λh=>aa)]
   subst a;clear b;go_wp2_with fail
   go_ret2
   exact⟨rfl,d⟩
  have i:=Ig v r B (q.out.below d).tab;by_cases c:Lib.itoa v=s.data.toList
  .have a:m=some v:=by
    rw[<- g.out];unfold Bv;rw[aG f.out,b];simp only;rw[aR ⟨aa,c⟩]
   subst a;have o:(⟨(Lib.itoa v).toArray⟩:aO)=s:=by rw[c]
   rw[o] at i;clear b c o;go_wp2_with(go_at_call 45;refine i.mono ?_;rintro e C ⟨rfl,l⟩)
   go_ret2
   exact⟨rfl,bf d l⟩
  .have a:m=none:=by
    rw[<- g.out];unfold Bv;rw[aG f.out,b];simp only;rw[aG (λh=>c h.2)]
   subst a;obtain⟨t,n⟩:∃t:aO,⟨(Lib.itoa v).toArray⟩=t:=⟨_,rfl⟩;rw[n] at i;have H:(t.toList==s.toList)=false:=by
    rw[gN,gN,dW,<- n];exact c
   clear b c n;go_wp2_with(go_at_call 45;refine i.mono ?_;rintro e C ⟨rfl,l⟩)
   go_ret2
   exact⟨rfl,bf d l⟩
 .have a:m=none:=by
   rw[<- g.out];unfold Bv;rw[aG f.out];split
   .next x D=>exact absurd D (b x)
   .rfl
  subst a;clear b;go_wp2_with fail
  go_ret2
  exact⟨rfl,d⟩
set_option maxRecDepth 20000
theorem CZ:(prog.info? 9).map (λi=>(i.zero,i.size,i.bytes))=some (some (au ⟨#[]⟩),1,16):=aA
def rQ (l:List ByteArray):ByteArray:=if l=[] then⟨#[110,111,116,104,105,110,103]⟩ else⟨(Lib.join (l.map (·.data.toList)) [32]).toArray⟩
theorem join_le (K:Nat):∀l:List ByteArray,(∀x∈l,x.size<=K)->(Lib.join (l.map (·.data.toList)) [32]).length<=l.length*(K+1):=by
 intro l h;have b:∀l:List ByteArray,(∀x∈l,x.size<=K)->Lib.lens (l.map (·.data.toList))<=l.length*K:=by
  intro l
  induction l with
  |nil=>intro _;exact bA _
  |cons x r c=>
   intro h;have a:=c λy d=>h y (by simp[d]);have e:=h x aI;unfold Lib.lens at a⊢;simp only[ny,List.sum_cons,eZ,Nat.add_mul] at a⊢;have f:x.data.toList.length=x.size:=rfl;omega
 cases l with
 |nil=>exact bA _
 |cons x r=>
  have a:=b (x::r) h;rw[ny,Lib.join_length];grind
theorem ve {W:World}{B K:Nat}(l:List ByteArray)(v:Value)(f:W.ownsRow B 9 1 v l.length (l.map au))(p:∀x∈l,x.size<=K)(u:l.length*(K+1)<=140737488355328):
  aL 57 #[v] W λe w'=>e=ay (au (rQ l))/\aD W w':=by
 have q:=join_le K l p;obtain⟨o,i,rfl,k,m,n⟩:=oH.own f;obtain⟨t,a⟩:∃t,rQ l=t:=⟨_,rfl⟩;rw[a];by_cases h:l=[]
 .subst h;obtain rfl:(⟨#[110,111,116,104,105,110,103]⟩:ByteArray)=t:=by rw[<- a];rfl
  clear a q f n k;go_enter func57,ntmps57;go_wp2_with fail;go_ret;exact⟨rfl,aW _ _⟩
 .have c:0<l.length:=List.length_pos_iff.2 h;have d:(⟨(Lib.join (l.map (·.data.toList)) [32]).toArray⟩:ByteArray)=t:=by rw[<- a];unfold rQ;rw[aG h]
  obtain⟨g,I,w, -,y⟩:=f.form c;cases w;have r:=Tryz.strings_Join g 0 i l ⟨#[32]⟩ W (λj x z=>by
   obtain⟨b,A,C,D⟩:=n j x z;cases C;exact D) y (by have s:=Nat.le_mul_of_pos_right l.length (show 0<K+1 by omega);omega) m (by
   have s:(⟨#[32]⟩:ByteArray).data.toList=[32]:=rfl;rw[s];omega)
  have E:(⟨#[32]⟩:ByteArray).data.toList=[32]:=rfl;rw[E,d] at r;have F:((l.length:Int)==0)=false:=by rw[dW];omega
  clear a d q f n h c p u;go_enter func57,ntmps57;go_wp2_with(go_at_call 110;refine r.mono ?_;rintro e J ⟨rfl,H⟩);go_ret;exact⟨rfl,H⟩
def yY (n:Int):ByteArray:=⟨(Lib.itoa n).toArray⟩
theorem D9 {n:Int}(h:kU n):(yY n).size<=21:=by
 have:=Lib.itoa_length_le n h.1 h.2;simpa[yY,ByteArray.size] using this
theorem vO {W:World}(hE:NE E W){B n:Nat}(l:List Int)(v:Value)(H:l.length=n)(r:W.ownsRow B 3 1 v n (di l))(b:∀x∈l,kU x)(hb:n<=1000000):
  aL 54 #[v] W λe w'=>e=ay (au (rQ (l.map yY)))/\aD W w':=by
 obtain⟨V,X,t,w,A⟩:=info_parts CZ;obtain⟨Y,cl,rfl⟩:=bD r;have h:=aF H;have Z:=aF hE;have I:=aF b;have J:=aF r;clear H hE b r;go_enter func54,ntmps54;go_wp2_with fail
 go_loopw [3,8] (λu i wr=>∃(k:Nat) (o:Option Addr) (m p:Nat),k<=n/\u=aj o m p/\i=ag k/\m=k/\wr.ownsRow W.heap.size 9 1 (aj o m p) m (((l.take k).map yY).map au)/\aD W wr) (λ_ i _=>n-(intOf i).toNat)
 case atStart=>exact⟨0,none,0,0,bA _,rfl,rfl,rfl,gp _ _ _ _,aW _ _⟩
 case round=>
  obtain⟨k,o,m,p,hk,rfl,rfl,L,a,c⟩:=hrel;have M:=aF L;have a4:m<=k:=aa;clear L;by_cases C:k<n
  .have N:(k:Int)<(n:Int):=aa;obtain⟨x,q⟩:∃x,l[k]? =some x:=⟨_,fD (by rw[h.out];exact C)⟩;obtain⟨g,O,cg⟩:=eF (bY J.out c) k _ (qH q);obtain rfl:Y=some ⟨g,0,none⟩:=by
    rcases J.out.2 with⟨_,P⟩|⟨g1,a5,a6,P,_⟩
    .omega
    .cases P;cases O;rfl
   have Q:=Fx x (yY x) wr (I.out x (ic q)) rfl (Z.out.below c).tab;have R:Hid (((l.take (k+1)).map yY).map Value.string=((l.take k).map yY).map Value.string++[au (yY x)]):=by
    show _=_;rw[eX,q];simp
   obtain⟨D,d⟩:∃s,yY x=s:=⟨_,rfl⟩;rw[d] at Q R;clear q O d;go_upto_region 5 with fail;go_upto_region 6 with(first|(go_at_call 45;refine Q.mono ?_;rintro e F ⟨rfl,f⟩;have yP:=iF (bY a f) (ak #[au D] 9);have H0:=fE F (ak #[au D] 9);have a7:=f.size;have a8:=c.size)|(at_builtin;refine wpList_append_own _ rfl _ _ 22 rfl W.heap.size 9 V (au ⟨#[]⟩) 1 16 underlying22 X t w A rfl aC _ _ _ rfl yP ⟨F.heap.size,0,none⟩ 1 1 [au D] rfl rfl (World.news_of_block H0) (λu S=>by simp at S;subst S;rfl) (by simp only[maxLen];omega) aa bq ?_;intro v7 w7 T lJ _;obtain⟨o7,c7,rfl⟩:=bD T));go_wp2_with fail
   go_roundw
   case rel=>exact⟨k+1,o7,_,c7,aa,rfl,by go_num,by rw[M.out],by rw[R.out];exact T,((aP c f).alloc aa _).grown lJ bq (λj hj=>(a.lt j hj).1)⟩
   case measure=>simp[intOf];omega
  .obtain rfl:k=n:=aa;have LT:=ve (W:=wr) (B:=W.heap.size) (K:=21) (l.map yY) (aj o m p) (by have U:=a;rw[jH (Nat.le_of_eq h.out)] at U;rw[dP,h.out,<- M.out];exact U) (λy hy=>by obtain⟨z,hz,rfl⟩:=gL.1 hy;exact D9 (I.out z hz)) (by rw[dP,h.out];omega);go_wp2_with(go_at_call 57;refine LT.mono ?_;rintro e F ⟨rfl,f⟩);go_ret;exact⟨rfl,aP c f⟩
structure Ps where
 rest:Bs
 more:Bool
 ns:List Int
 nm:Bs
 tx:Bs
def Bz (k:UInt8)(p:Ps):Option Ps:=
 if p.more=false then none
 else if k=84 then some ⟨p.rest,false,p.ns,p.nm,p.rest⟩
 else if k=87 then some ⟨(Lib.cut p.rest [32]).2.1,(Lib.cut p.rest [32]).2.2,p.ns,(Lib.cut p.rest [32]).1,p.tx⟩
 else match Bv ⟨(Lib.cut p.rest [32]).1.toArray⟩ with
  |none=>none
  |some n=>some ⟨(Lib.cut p.rest [32]).2.1,(Lib.cut p.rest [32]).2.2,p.ns++[n],p.nm,p.tx⟩
def jE:Bs->Ps->Option Ps
 |[],p=>if p.more then none else some p
 |k::f,p=>(Bz k p).bind (jE f)
theorem IW (s:Bs):(Lib.cut s [32]).2.1.length<=s.length:=by
 cases h:(Lib.cut s [32]).2.2 with
 |true=>exact Nat.le_of_lt (Wt s [32] h aI)
 |false=>
  unfold Lib.cut at h⊢;grind
theorem a3P {R g:Nat}{x y z:ax}(h:g≠R):(((w.setCell ⟨R,0,none⟩ x).setCell ⟨R,1,none⟩ y).setCell ⟨R,2,none⟩ z).heap[g]? =w.heap[g]? :=by
 simp[World.setCell,Array.getElem?_modify,Ne.symm h]
abbrev jl (o:Option Addr)(n cp:Nat)(nm tx:Bs):Array ax:=#[aj o n cp,bV nm,bV tx]
def PrR (B:Nat)(r:Option Ps)(e:Ending)(w:ai):Prop:=match r with
 |none=>∃o n a b c,e=ay (aH #[.agg (jl o n a b c),.bool false])
 |some p=>∃o a,e=ay (aH #[.agg (jl o p.ns.length a p.nm p.tx),.bool true])/\w.ownsRow B 3 1 (aj o p.ns.length a) p.ns.length (di p.ns)
theorem Kh {W:ai}(hE:NE E W)(hm:TF W)(f rest:Bs)(r:Bool)(hf:∀c∈f,c.toNat<128)(hr:rest.length<=1000000)(b6:f.length<=1000):
  aL 60 #[bV f,bV rest,.bool r] W λe w'=>PrR W.heap.size (jE f ⟨rest,r,[],[],[]⟩) e w'/\Below W.heap.size W w':=by
 obtain⟨i0,hi,d7,d8,d9⟩:=info_parts AB;have HE:=aF hE;have HX:=aF hm;have HF:=aF hf;have e0:=aF b6;obtain⟨Z,hZ⟩:∃Z,jE f ⟨rest,r,[],[],[]⟩=Z:=⟨_,rfl⟩;have HZ:Hid (Z=jE f ⟨rest,r,[],[],[]⟩):=hZ.symm;rw[hZ];clear hE hm hf b6 hZ;go_enter func60,ntmps60;go_upto_region 2 with fail;have b1:=dR W (ak (jl none 0 0 [] []) 62);have z:=dR (W.alloc (ak (jl none 0 0 [] []) 62)) (ak (jl none 0 0 [] []) 62);have s:=(z.block _ (bu (dY W (jl none 0 0 [] []) 62))).trans (dY W (jl none 0 0 [] []) 62);have w:=dY (W.alloc (ak (jl none 0 0 [] []) 62)) (jl none 0 0 [] []) 62;rw[dV] at w;have bW:=bf b1 z;obtain⟨V,hV⟩:∃V,(W.alloc (ak (jl none 0 0 [] []) 62)).alloc (ak (jl none 0 0 [] []) 62)=V:=⟨_,rfl⟩;have Oq:V.heap.size=W.heap.size+1+1:=by rw[<- hV,dV,dV]
 have d0:(W.alloc (ak #[aj none 0 0,au ⟨#[]⟩,au ⟨#[]⟩] 62)).alloc (ak #[aj none 0 0,au ⟨#[]⟩,au ⟨#[]⟩] 62)=V:=hV;rw[hV] at s w bW;rw[d0];obtain⟨R,D⟩:∃R,W.heap.size=R:=⟨_,rfl⟩;obtain⟨L,hL⟩:∃L,R+1=L:=⟨_,rfl⟩;obtain⟨b,b7⟩:∃b,V.heap.size=b:=⟨_,rfl⟩;unfold aD at bW;rw[D] at s w Oq bW⊢;rw[hL] at w Oq⊢;have HS:Hid (W.heap.size=R/\R+1=L/\L+1=b):=⟨D,hL,by rw[<- b7,Oq]⟩;have a4:(V.alloc (.stringIter ⟨f.toArray⟩ 0)).heap[V.heap.size]? =some (.stringIter ⟨f.toArray⟩ 0):=by
  show(V.heap.push (.stringIter ⟨f.toArray⟩ 0))[V.heap.size]? =_;exact Array.getElem?_push_size
 have bI:Below V.heap.size V (V.alloc (.stringIter ⟨f.toArray⟩ 0)):=(aW _ V).alloc az _;have d1:=(bI.block _ (bu s)).trans s;have y:=(bI.block _ (bu w)).trans w;have Vu:Below R W (V.alloc (.stringIter ⟨f.toArray⟩ 0)):=bW.trans (bI.mono aa);rw[b7] at a4;clear hV d0 D hL b1 z bW bI s w Oq;go_upto_region 3 with fail;clear b7
 go_loopg [1,2] f.length (λg u m wx=>∃(i:Nat) (a:Ps) (o:Option Addr) (p:Nat),i+g=f.length/\u=bV a.rest/\m=.bool a.more/\wx.heap[b]? =some (.stringIter ⟨f.toArray⟩ i)/\wx.heap[R]? =some (ak (jl none 0 0 [] []) 62)/\wx.heap[L]? =some (ak (jl o a.ns.length p a.nm a.tx) 62)/\wx.ownsRow (b+1) 3 1 (aj o a.ns.length p) a.ns.length (di a.ns)/\Below R W wx/\b<wx.heap.size/\Hid (Z=jE (f.drop i) a/\a.rest.length<=1000000/\a.ns.length<=i))
 case atStart=>exact⟨0,⟨rest,r,[],[],[]⟩,none,0,aa,rfl,rfl,a4,d1,y,gp _ _ _ _,Vu,bu a4,HZ.out,hr,bJ _⟩
 case round=>
  obtain⟨i,a,o,p,e4,rfl,rfl,a5,s,w,F,hb,b8,HP⟩:=hrel;have e5:(⟨f.toArray⟩:aO).size=f.length:=gY f;have D:=HS.out;have HK:Hid (wr.heap[R]? =some (ak (jl none 0 0 [] []) 62)/\wr.heap[L]? =some (ak (jl o a.ns.length p a.nm a.tx) 62)/\wr.ownsRow (b+1) 3 1 (aj o a.ns.length p) a.ns.length (di a.ns)/\Below R W wr):=⟨s,w,F,hb⟩;cases gk with
  |zero=>
   obtain rfl:i=f.length:=aa;have a6:=λty=>Lib.run_next_end_at (P:=prog) wr b ⟨f.toArray⟩ f.length ty a5 aa;have l0:wr.cell? (aJ L 0)=some (aj o a.ns.length p):=aQ w 0 _ rfl;have l1:wr.cell? (aJ L 1)=some (bV a.nm):=aQ w 1 _ rfl;have l2:wr.cell? (aJ L 2)=some (bV a.tx):=aQ w 2 _ rfl;have H:wr.cell? (aJ R 0)=some (aj none 0 0):=aQ s 0 _ rfl;have I:wr.cell? (aJ R 1)=some (bV []):=aQ s 1 _ rfl;have J:wr.cell? (aJ R 2)=some (bV []):=aQ s 2 _ rfl;have f0:=bG s 0;have f1:=bG s 1;have f2:=bG s 2;have FN:=JW (W:=W) s aa (by unfold aD;rw[D.1];exact hb) (aj o a.ns.length p) (bV a.nm) (bV a.tx);clear s w F hb;go_wp2_with fail;obtain⟨H,I,J,rb⟩:=FN _ rfl;refine bg (v:=aH #[.agg (jl o a.ns.length p a.nm a.tx),.bool (!a.more)]) (by simp[results,results60,go_sem,H,I,J]) rfl ⟨?_,rb⟩;rw[HP.out.1,List.drop_length];unfold jE;cases K:a.more with
   |true=>exact⟨_,_,_,_,_,rfl⟩
   |false=>exact⟨o,p,rfl,gz (dF HK.out.2.2.1 λg X=>a3P (λe=>by have:=(HK.out.2.2.1.lt g X).1;omega)) aa⟩
  |succ g=>
   have b9:i<f.length:=aa;obtain⟨x,hx⟩:∃x,f[i]? =some x:=⟨_,fD b9⟩;have d2:f.drop i=x::f.drop (i+1):=by
    rw[wz b9];rw[fD b9] at hx;cases hx;rfl
   have M:=HF.out x (ic hx);have c0:(⟨f.toArray⟩:aO)[i]'aa=x:=by
    have h1:=Lib.data_getElem? ⟨f.toArray⟩ i aa;rw[abD,hx] at h1;exact(fT h1).symm
   have a6:=λty=>Lib.run_next_ascii_at (P:=prog) wr b ⟨f.toArray⟩ i ty a5 aa (by rw[c0];exact M);rw[c0] at a6;have N:=Lib.iterAt_heap wr b ⟨f.toArray⟩ i (i+1) a5;have k:=(Lib.iterAt_other wr b R ⟨f.toArray⟩ (i+1) aa).trans s;have c4:=(Lib.iterAt_other wr b L ⟨f.toArray⟩ (i+1) aa).trans w;have O:=dF F λg X=>Lib.iterAt_other wr b g ⟨f.toArray⟩ (i+1) (by have:=(F.lt g X).1;omega);have a7:Below R W (wr.iterAt b ⟨f.toArray⟩ (i+1)):=by
    have h1:=uU (by rw[D.1];exact hb:Below W.heap.size W wr) b aa ⟨f.toArray⟩ (i+1);unfold aD at h1;rw[D.1] at h1;exact h1
   have c5:=Lib.iterAt_size wr b ⟨f.toArray⟩ (i+1);obtain⟨U,hU⟩:∃U,wr.iterAt b ⟨f.toArray⟩ (i+1)=U:=⟨_,rfl⟩;rw[hU] at N k c4 O a7 a6 c5;have Y:Hid (Z=(Bz x a).bind (jE (f.drop (i+1)))/\a.rest.length<=1000000/\a.ns.length<=i):=⟨by rw[HP.out.1,d2];rfl,HP.out.2⟩;have d:Hid (U.heap[b]? =some (.stringIter ⟨f.toArray⟩ (i+1))/\U.heap[R]? =some (ak (jl none 0 0 [] []) 62)/\U.heap[L]? =some (ak (jl o a.ns.length p a.nm a.tx) 62)/\U.ownsRow (b+1) 3 1 (aj o a.ns.length p) a.ns.length (di a.ns)/\Below R W U/\b<U.heap.size):=⟨N,k,c4,O,a7,by rw[c5];exact b8⟩;have e6:=aF b8;have H:U.cell? (aJ R 0)=some (aj none 0 0):=aQ k 0 _ rfl;have I:U.cell? (aJ R 1)=some (bV []):=aQ k 1 _ rfl;have J:U.cell? (aJ R 2)=some (bV []):=aQ k 2 _ rfl;have f0:=bG k 0;have f1:=bG k 1;have f2:=bG k 2;have FN:=JW (W:=W) k aa (by unfold aD;rw[D.1];exact a7) (aj none 0 0) (bV []) (bV []);clear HK d2 hx M c0 a5 N s w F hb hU k c4 O a7 HP c5 b8 a4 d1 y Vu;cases K:a.more with
   |false=>
    have d3:Z=none:=by
     rw[Y.out.1];unfold Bz;rw[aR K];rfl
    have c6:=aF d3;clear d3 K;go_wp2_with fail;obtain⟨H,I,J,rb⟩:=FN _ rfl;refine bg (v:=aH #[.agg (jl none 0 0 [] []),.bool false]) (by simp[results,results60,go_sem,H,I,J]) rfl ⟨by rw[c6.out];exact⟨_,_,_,_,_,rfl⟩,rb⟩
   |true=>
    have c8:=aF K;clear K;have Q:=λj v g (h:g≠L)=>heap_setCell_other U ⟨L,j,none⟩ g v h;by_cases S:x=84
    .subst S;have l2:U.cell? (aJ L 2)=some (bV a.tx):=aQ d.out.2.2.1 2 _ rfl;have e7:=bG d.out.2.2.1 2;have k1:=heap_setCell_same U L 2 _ _ (bV a.rest) d.out.2.2.1;have T:Hid (Z=jE (f.drop (i+1)) ⟨a.rest,false,a.ns,a.nm,a.rest⟩):=by
      show Z=_;rw[Y.out.1];unfold Bz;rw[aG (by rw[c8.out];simp),aR rfl];rfl
     clear f0 f1 f2 H I J FN;go_wp2_with fail
     go_roundg g
     case measure=>omega
     case rel=>exact⟨i+1,⟨a.rest,false,a.ns,a.nm,a.rest⟩,o,p,aa,rfl,rfl,(Q 2 _ b aa).trans d.out.1,(Q 2 _ R aa).trans d.out.2.1,k1,dF d.out.2.2.2.1 (λg X=>Q 2 _ g (by have:=(d.out.2.2.2.1.lt g X).1;omega)),d.out.2.2.2.2.1.setCell (show R<=L by omega) _,by rw[nu];exact d.out.2.2.2.2.2,T.out,Y.out.2.1,by have:=Y.out.2.2;show a.ns.length<=_;omega⟩
    have e8:((x.toNat:Int)==84)=false:=by
     rw[dW];intro h;exact S (UInt8.toNat_inj.1 (by show x.toNat=84;omega))
    have CT:=Bg a.rest [32] Y.out.2.1 U (HX.out.below (by have h1:=d.out.2.2.2.2.1;unfold aD;rw[D.1];exact h1));have a8:Hid ((Lib.cut a.rest [32]).2.1.length<=1000000):=bO (IW a.rest) Y.out.2.1;by_cases a9:x=87
    .subst a9;have T:Hid (Z=jE (f.drop (i+1)) ⟨(Lib.cut a.rest [32]).2.1,(Lib.cut a.rest [32]).2.2,a.ns,(Lib.cut a.rest [32]).1,a.tx⟩):=by
      show Z=_;rw[Y.out.1];unfold Bz;rw[aG (by rw[c8.out];simp),aG S,aR rfl];rfl
     obtain⟨c1,A⟩:∃c,(Lib.cut a.rest [32]).1=c:=⟨_,rfl⟩;obtain⟨c2,t⟩:∃c,(Lib.cut a.rest [32]).2.1=c:=⟨_,rfl⟩;obtain⟨c3,B⟩:∃c,(Lib.cut a.rest [32]).2.2=c:=⟨_,rfl⟩;rw[A,t,B] at CT T;rw[t] at a8;clear A t B f0 f1 f2 H I J FN;go_upto_region 12 with(go_at_call 59;refine CT.mono ?_;rintro e w2 ⟨rfl,z⟩);have y:=(z.block _ (bu d.out.2.2.1)).trans d.out.2.2.1;have l1:w2.cell? (aJ L 1)=some (bV a.nm):=aQ y 1 _ rfl;have e9:=bG y 1;have k1:=heap_setCell_same w2 L 1 _ _ (bV c1) y;have Vv:=λv g (h:g≠L)=>heap_setCell_other w2 ⟨L,1,none⟩ g v h;clear y Q CT;go_wp2_with fail
     go_roundg g
     case measure=>omega
     case rel=>exact⟨i+1,⟨c2,c3,a.ns,c1,a.tx⟩,o,p,aa,rfl,rfl,(Vv _ b aa).trans ((z.block _ d.out.2.2.2.2.2).trans d.out.1),(Vv _ R aa).trans ((z.block _ (bu d.out.2.1)).trans d.out.2.1),k1,dF (bY d.out.2.2.2.1 z) (λg X=>Vv _ g (by have:=(d.out.2.2.2.1.lt g X).1;omega)),(d.out.2.2.2.2.1.trans (z.mono (by have:=d.out.2.2.2.2.2;omega))).setCell (show R<=L by omega) _,by rw[nu];have:=z.size;have:=d.out.2.2.2.2.2;omega,T.out,a8.out,by have:=Y.out.2.2;show a.ns.length<=_;omega⟩
    .have f3:((x.toNat:Int)==87)=false:=by
      rw[dW];intro h;exact a9 (UInt8.toNat_inj.1 (by show x.toNat=87;omega))
     have T:Hid (Z=(match Bv ⟨(Lib.cut a.rest [32]).1.toArray⟩ with|none=>none|some n=>some ⟨(Lib.cut a.rest [32]).2.1,(Lib.cut a.rest [32]).2.2,a.ns++[n],a.nm,a.tx⟩:Option Ps).bind (jE (f.drop (i+1)))):=by
      show Z=_;rw[Y.out.1];unfold Bz;rw[aG (by rw[c8.out];simp),aG S,aG a9]
     obtain⟨c1,A⟩:∃c,(Lib.cut a.rest [32]).1=c:=⟨_,rfl⟩;obtain⟨c2,t⟩:∃c,(Lib.cut a.rest [32]).2.1=c:=⟨_,rfl⟩;obtain⟨c3,B⟩:∃c,(Lib.cut a.rest [32]).2.2=c:=⟨_,rfl⟩;rw[A,t,B] at T;rw[A,t,B] at CT;rw[t] at a8;have RN:=λV (hV:Below R W V)=>IU (HE.out.below (by unfold aD;rw[D.1];exact hV)) ⟨c1.toArray⟩;have uP:=d.out.2.2.2.2.1;obtain⟨m,hm⟩:∃m,Bv ⟨c1.toArray⟩=m:=⟨_,rfl⟩;rw[hm] at T;simp only[hm] at RN;clear A t B f0 f1 f2 H I J FN Q S a9;have f4:=aF hm;clear hm;have e1:=d.out.2.2.2.2.2;go_upto_region 14 with(first|(go_at_call 114;refine d4.mono ?_;rintro e q ⟨rfl,b3⟩)|(go_at_call 59;refine CT.mono ?_;rintro e w2 ⟨rfl,z⟩;have d4:=RN w2 (uP.trans (z.mono aa))));have sM:=bf z b3;have l:=(sM.block _ (bu d.out.2.1)).trans d.out.2.1;have b0:=(sM.block _ (bu d.out.2.2.1)).trans d.out.2.2.1;have b4:=bY d.out.2.2.2.1 sM;have c9:=(sM.block _ e1).trans d.out.1;have b5:Below R W q:=uP.trans (sM.mono aa);have f5:=sM.size;clear RN d4 CT a6;cases m with
     |none=>
      have c6:Hid (Z=none):=T.out;have H:q.cell? (aJ R 0)=some (aj none 0 0):=aQ l 0 _ rfl;have I:q.cell? (aJ R 1)=some (bV []):=aQ l 1 _ rfl;have J:q.cell? (aJ R 2)=some (bV []):=aQ l 2 _ rfl;have f0:=bG l 0;have f1:=bG l 1;have f2:=bG l 2;have FN:=JW (W:=W) l aa (by unfold aD;rw[D.1];exact b5) (aj none 0 0) (bV []) (bV []);clear T l b0 b4 c9 b5;go_wp2_with fail;obtain⟨H,I,J,rb⟩:=FN _ rfl;refine bg (v:=aH #[.agg (jl none 0 0 [] []),.bool false]) (by simp[results,results60,go_sem,H,I,J]) rfl ⟨by rw[c6.out];exact⟨_,_,_,_,_,rfl⟩,rb⟩
     |some n=>
      have e2:Hid (Z=jE (f.drop (i+1)) ⟨c2,c3,a.ns++[n],a.nm,a.tx⟩):=T.out;have l0:q.cell? (aJ L 0)=some (aj o a.ns.length p):=aQ b0 0 _ rfl;have e3:Hid (q.heap[R]? =some (ak (jl none 0 0 [] []) 62)/\q.heap[L]? =some (ak (jl o a.ns.length p a.nm a.tx) 62)/\q.heap[b]? =some (.stringIter ⟨f.toArray⟩ (i+1))/\Below R W q/\b<q.heap.size):=⟨l,b0,c9,b5,aa⟩;have yP:=iF b4 (ak #[ag n] 3);have H0:=fE q (ak #[ag n] 3);have f6:=Y.out.2.2;have b6:=e0.out;clear T l b0 c9 b5;simp only[Option.getD_some,Option.isSome_some];have f8:(q.alloc (ak #[ag n] 3)).cell? (aJ L 0)=some (aj o a.ns.length p):=((dR q _).cell (aM l0)).trans l0;have G7:∀C,(q.alloc (ak #[ag n] 3)).grownBy C (Value.slice o a.ns.length p).ownBlock->Hid (C.heap[R]? =some (ak (jl none 0 0 [] []) 62)/\C.heap[L]? =some (ak (jl o a.ns.length p a.nm a.tx) 62)/\C.heap[b]? =some (.stringIter ⟨f.toArray⟩ (i+1))/\Below R W C/\b<C.heap.size):=λC gr=>by
       obtain⟨h1,h2,h3,h4,h5⟩:=e3.out;have hk:∀g,g<=b->C.heap[g]? =q.heap[g]? :=λg X=>(gr.block g (by rw[dV];omega) (λe=>by have:=(b4.lt g e.symm).1;omega)).trans ((dR q _).block g aa);exact⟨(hk R aa).trans h1,(hk L aa).trans h2,(hk b az).trans h3,h4.trans (((aW _ q).alloc aa _).grown gr (by rw[dV];omega) (λj hj=>by have:=(b4.lt j hj).1;omega)),by have:=gr.size;rw[dV] at this;omega⟩
      go_upto_region 16 with fail;go_wp2_with(at_builtin;refine wpList_append_own _ rfl _ _ 35 rfl (b+1) 3 i0 (ag 0) 1 8 underlying35 hi d7 d8 d9 rfl aC _ _ _ rfl yP ⟨q.heap.size,0,none⟩ 1 1 [ag n] rfl rfl (World.news_of_block H0) (λu hu=>by simp at hu;subst hu;rfl) (by simp only[maxLen];omega) aa bq ?_;intro v7 C kN lJ _;obtain⟨o7,c7,rfl⟩:=bD kN;have q7:=G7 C lJ;have l7:C.cell? (aJ L 0)=some (aj o a.ns.length p):=aQ q7.out.2.1 0 _ rfl;have f7:=bG q7.out.2.1 0;clear lJ);obtain⟨q1,q2,q3,q4,q5⟩:=q7.out;have k1:=heap_setCell_same C L 0 _ _ (aj o7 (a.ns.length+1) c7) q2;have Vv:=λv g (h:g≠L)=>heap_setCell_other C ⟨L,0,none⟩ g v h;have d6:(a.ns++[n]).length=a.ns.length+1:=by rw[dO];rfl
      go_roundg g
      case measure=>omega
      case rel=>
       refine⟨i+1,⟨c2,c3,a.ns++[n],a.nm,a.tx⟩,o7,c7,aa,rfl,rfl,(Vv _ b aa).trans q3,(Vv _ R aa).trans q1,?_,?_,q4.setCell (show R<=L by omega) _,by rw[nu];exact q5,e2.out,a8.out,by show(a.ns++[n]).length<=_;omega⟩
       .dsimp only;rw[d6];exact k1
       .show World.ownsRow _ _ _ _ (aj o7 (a.ns++[n]).length c7) (a.ns++[n]).length (di (a.ns++[n]));rw[d6,Cn];exact dF kN λg X=>Vv _ g (by have:=(kN.lt g X).1;omega)
