import Derived.Test.YtbkjmamcnflncaaGreatDoorQs44
namespace Go.Proofs.YtbkjmamcnflncaaGreatDoor
open Go.Proofs.Tryz
set_option maxHeartbeats 16000000
variable{f:List (List UInt8)}
section
open Go.RowKit
def pieces (c:UInt8):List UInt8->List (List UInt8)
 |[]=>[[]]
 |b::l=>if b=c then[]::pieces c l else match pieces c l with
  |[]=>[[b]]
  |p::a=>(b::p)::a
theorem DJ {c:UInt8}:∀{x:List UInt8},(∀b∈x,b≠c)->pieces c x=[x]
 |[],_=>rfl
 |b::l,h=>by
  have e:=DJ (c:=c) (x:=l) (λa d=>h a (EO _ d));unfold pieces;grind
theorem J2 {c:UInt8}{y:List UInt8}:∀{x:List UInt8},(∀b∈x,b≠c)->pieces c (x++c::y)=x::pieces c y
 |[],_=>by simp[pieces]
 |b::l,h=>by
  have f:=J2 (c:=c) (y:=y) (x:=l) (λa d=>h a (EO _ d));rw[fV];show(if b=c then[]::pieces c (l++c::y) else match pieces c (l++c::y) with|[]=>[[b]]|p::e=>(b::p)::e)=_;grind
def strs (a:List (List UInt8)):List au:=a.map λp=>ak ⟨p.toArray⟩
theorem a8M:(prog.info? 9).map (λi=>(i.zero,i.size,i.bytes))=some (some (ak ByteArray.empty),1,16):=az
structure oI (c:UInt8)(s:aM)(done:List (List UInt8))(from_ k:Nat):Prop where
 all:pieces c s.data.toList=done++pieces c (s.data.toList.drop from_)
 le:from_<=k
 none:∀b∈(s.data.toList.drop from_).take (k-from_),b≠c
 few:done.length<=from_
theorem oI.start (c:UInt8)(s:aM):oI c s [] 0 0:=⟨aG,Nat.le_refl _,aG,Nat.le_refl _⟩
theorem DK {s:aM}{a k:Nat}(b:k<s.size)(c:a<=k):s.data.toList.drop a=(s.data.toList.drop a).take (k-a)++s[k]::s.data.toList.drop (k+1):=by
 have e:(s.data.toList.drop a).drop (k-a)=s[k]::s.data.toList.drop (k+1):=by
  rw[mP,show a+(k-a)=k by omega,vz (by rw[lX];exact b)];rfl
 rw[<- e,jJ]
theorem oI.hit {c:UInt8}{s:aM}{a k:Nat}(h:oI c s f a k)(d:k<s.size)(hc:s[k]=c):
  oI c s (f++[(s.extract a k).data.toList]) (k+1) (k+1):=by
 have e:(s.extract a k).data.toList=(s.data.toList.drop a).take (k-a):=Lib.extract_data s a k;refine⟨?_,Nat.le_refl _,aG,?_⟩
 .have b:=DK d h.le;rw[hc] at b;rw[h.all,b,J2 h.none,e,kV];rfl
 .have:=h.few;have:=h.le;simp;omega
theorem oI.miss {c:UInt8}{s:aM}{a k:Nat}(h:oI c s f a k)(i:k<s.size)(hc:s[k]≠c):oI c s f a (k+1):=by
 refine⟨h.all,Nat.le_succ_of_le h.le,?_,h.few⟩;have e:(s.data.toList.drop a).take (k+1-a)=(s.data.toList.drop a).take (k-a)++[s[k]]:=by
  have j:=DK i h.le;have g:((s.data.toList.drop a).take (k-a)).length=k-a:=by grind
  conv=>lhs;rw[j]
  rw[List.take_append,g,jg (by rw[g];omega),show k+1-a-(k-a)=1 by have:=h.le;omega];rfl
 rw[e];intro b d;rcases gT.1 d with d|d
 .exact h.none b d
 .grind
theorem oI.fin {c:UInt8}{s:aM}{a:Nat}(h:oI c s f a s.size):f++[(s.extract a s.size).data.toList]=pieces c s.data.toList:=by
 have e:(s.extract a s.size).data.toList=s.data.toList.drop a:=Lib.extract_to_end s a;have d:∀b∈s.data.toList.drop a,b≠c:=by
  have:=h.none;rwa[jg (by rw[kU,lX];exact Nat.le_refl _)] at this
 rw[h.all,DJ d,e]
theorem a09 (a:List (List UInt8))(t:aM):strs (a++[t.data.toList])=strs a++[ak t]:=by
 have:(⟨t.data.toList.toArray⟩:aM)=t:=by grind
 simp[strs,this]
theorem a8N {a b:UInt8}(h:(a.toNat:Int)=b.toNat):a=b:=UInt8.toNat_inj.1 aa
theorem a4L {w:ah}{a:Nat}{e:TypeId}{b:Nat}{v:au}{n:Nat}{d:List au}(h:w.ownsRow a e b v n d):∀k,v.ownBlock=some k->a<=k:=by
 obtain⟨_,f⟩:=h;rcases f with⟨rfl,_⟩|⟨g,i,j,rfl,l,_⟩
 .intro k c;cases c
 .intro k c;cases c;exact l
theorem Si {w:ah}{a:Nat}{e:TypeId}{v:au}{t:aM}(h:w.ownsRow a e 1 v (f.length+1) (strs f++[ak t])):w.ownsRow a e 1 v (f++[t.data.toList]).length (strs (f++[t.data.toList])):=by
 rw[a09,dJ];exact h
theorem a8O (s:aM)(c:UInt8)(w:ah)(K:s.size<=1000000):
  aJ 8 #[ak s,.int .u8 c.toNat] w λe w'=>∃v,e=ax v/\w'.ownsRow w.heap.size 9 1 v (pieces c s.data.toList).length (strs (pieces c s.data.toList))/\aD w w':=by
 obtain⟨C,D,l,m,n⟩:=info_parts a8M;go_enter func8,ntmps8;go_wp2
 go_loopw [5,6,7] (λv x y wr=>∃(f:List (List UInt8)) (a k:Nat),k<=s.size/\x=ag a/\y=ag k/\oI c s f a k/\wr.ownsRow w.heap.size 9 1 v f.length (strs f)/\aD w wr) (λ_ _ y _=>s.size-(intOf y).toNat)
 case atStart=>exact⟨[],0,0,bf _,rfl,rfl,oI.start c s,gp _ _ _ _,aQ _ _⟩
 case round=>
  obtain⟨f,a,k,L,rfl,rfl,b,i,t⟩:=hrel;have z:=aA b;have o:=aA i;have F:=b.le;have H:=b.few;have p:=t.size;clear b i;by_cases q:k<s.size
  .have E:(k:Int)<(s.size:Int):=aa;have A:(a:Int)<=(k:Int):=aa;by_cases u:s[k]=c
   .have B:((s[k].toNat:Int)==(c.toNat:Int))=true:=by rw[u];simp
    go_wp2_with(at_builtin;refine wpList_append_own _ rfl _ _ 22 rfl w.heap.size 9 C (ak ByteArray.empty) 1 16 underlying22 D l m n rfl aC _ _ _ rfl (ig o.out _) ⟨wr.heap.size,0,none⟩ 1 1 [ak (s.extract a k)] rfl rfl (cell_one_new _ _ _) (λx r=>by simp at r;subst r;rfl) (by unfold maxLen;omega) aa aX ?_;intro I J d g _);have j:=(t.alloc p _).grown g aX (a4L o.out)
    go_roundw
    case rel=>exact⟨_,k+1,k+1,aa,by go_num,by go_num,z.out.hit q u,Si d,j⟩
    case measure=>simp[intOf];omega
   .have B:((s[k].toNat:Int)==(c.toNat:Int))=false:=by rw[dL];exact λe=>u (a8N e)
    go_wp2
    go_roundw
    case rel=>exact⟨f,a,k+1,aa,rfl,by go_num,z.out.miss q u,o.out,t⟩
    case measure=>simp[intOf];omega
  .obtain rfl:k=s.size:=aa;have A:(a:Int)<=(s.size:Int):=aa;go_wp2_with(at_builtin;refine wpList_append_own _ rfl _ _ 22 rfl w.heap.size 9 C (ak ByteArray.empty) 1 16 underlying22 D l m n rfl aC _ _ _ rfl (ig o.out _) ⟨wr.heap.size,0,none⟩ 1 1 [ak (s.extract a s.size)] rfl rfl (cell_one_new _ _ _) (λx r=>by simp at r;subst r;rfl) (by unfold maxLen;omega) aa aX ?_;intro I J d g _);have j:=(t.alloc p _).grown g aX (a4L o.out);have h:=Si d;rw[z.out.fin] at h;go_ret;exact⟨_,rfl,h,j⟩
end
open Go.RowKit Go.Maps Go.Shelf
set_option maxRecDepth 20000
theorem Lr (c:UInt8):∀s:Bs,∃r,pieces c s=(Lib.cut s [c]).1::r/\(r=[]↔(Lib.cut s [c]).2.2=false)
 |[]=>⟨[],rfl,by simp[Lib.cut,Lib.index_one,Lib.indexByte]⟩
 |b::l=>by
  obtain⟨r,d,a⟩:=Lr c l;have m:=Lib.indexByte_ge l c;rw[pieces];unfold Lib.cut at d a⊢;rw[Lib.index_one] at d a⊢;rw[Lib.indexByte];by_cases g:b=c
  .subst g;simp only[beq_self_eq_true,if_true];rw[if_pos (Int.le_refl 0)];exact⟨pieces b l,aG,⟨λh=>(by rw[d] at h;cases h),λh=>(by cases h)⟩⟩
  .have e:(b==c)=false:=by grind
   simp only[if_neg g,e,Bool.false_eq_true,if_false];rw[d];by_cases i:Lib.indexByte l c= -1
   .simp only[i] at a⊢;grind
   .have j:0<=Lib.indexByte l c:=aa;have k:(Lib.indexByte l c+1).toNat=(Lib.indexByte l c).toNat+1:=aa;have f:(Lib.indexByte l c== -1)=false:=by grind
    simp only[if_pos j] at a⊢;simp only[f,Bool.false_eq_true,if_false];rw[if_pos aa,k];exact⟨r,aG,by simpa using a⟩
def fmT (i:Nat):Int×Bool×Bool:=match i with
 |0=>(0,false,true)|1=>(0,false,true)|2=>(2,true,false)|3=>(1,false,false)|4=>(3,false,false)|5=>(1,true,true)|6=>(1,true,false)|9=>(0,false,true)|10=>(1,true,false)|_=>(0,false,false)
def fmC (o:Option Nat):Int×Bool×Bool:=match o with
 |none=>(0,false,false)
 |some i=>fmT i
section
variable {E:Nat->Addr}{T:Nat->Bs}{W:ah}
theorem Vs (y:Bs)(W:ah):aJ 9 #[bV y] W λe w'=>e=ax (aF #[ag (fmC (wL y)).1,.bool (fmC (wL y)).2.1,.bool (fmC (wL y)).2.2,.bool (wL y).isSome])/\w'=W:=by
 have s:∀z:Bs,z∈[[99,111,117,110,116],[112,105,101,99,101,115],[115,116,121,108,101],[102,105,110,100],[116,101,120,116],[115,104,111,119],[117,110,115,101,116],[115,101,116],[109,111,118,101],[114,101,109,111,118,101],[97,100,100],[115,104,101,101,116],[111,112,101,110]]->aJ 9 #[bV z] W λe w'=>e=ax (aF #[ag (fmC (wL z)).1,.bool (fmC (wL z)).2.1,.bool (fmC (wL z)).2.2,.bool (wL z).isSome])/\w'=W:=by
  intro z g;simp only[gD,List.not_mem_nil,or_false] at g;rcases g with rfl|rfl|rfl|rfl|rfl|rfl|rfl|rfl|rfl|rfl|rfl|rfl|rfl
  all_goals
   go_enter func9,ntmps9;go_wp2_with fail;exact bodyPost_ret (by simp[results,results9,go_sem];exact⟨rfl,rfl,rfl,rfl⟩) rfl ⟨rfl,rfl⟩
 by_cases g:y∈[[99,111,117,110,116],[112,105,101,99,101,115],[115,116,121,108,101],[102,105,110,100],[116,101,120,116],[115,104,111,119],[117,110,115,101,116],[115,101,116],[109,111,118,101],[114,101,109,111,118,101],[97,100,100],[115,104,101,101,116],[111,112,101,110]]
 .exact s y g
 simp only[gD,List.not_mem_nil,or_false,not_or] at g;obtain⟨h,i,j,k,m,n,o,p,q,a,c,d,f⟩:=g;have t:wL y=none:=by
  unfold wL;simp only[h,i,j,k,m,n,o,p,q,a,c,d,f,if_false]
 rw[t];obtain⟨b,r⟩:∃b:aM,⟨y.toArray⟩=b:=⟨_,rfl⟩;have K:∀l:Bs,¬y=l->(b.toList==l)=false:=λl u=>by
  rw[gz,<- r,dL];exact u
 have C:=K _ h;have D:=K _ i;have E:=K _ j;have F:=K _ k;have H:=K _ m;have I:=K _ n;have J:=K _ o;have L:=K _ p;have M:=K _ q;have w:=K _ a;have x:=K _ c;have A:=K _ d;have B:=K _ f;rw[show bV y=ak b by rw[<- r]];clear h i j k m n o p q a c d f r t s K;go_enter func9,ntmps9;go_wp2_with fail;exact bodyPost_ret (v:=aF #[ag 0,.bool false,.bool false,.bool false]) (by simp[results,results9,go_sem]) rfl ⟨rfl,rfl⟩
theorem JI (W:ah):aJ 10 #[ag 1] W λe w'=>e=ax (bV [108,101,97,100,108,105,103,104,116,58,32,116,101,120,116])/\aD W w':=by
 have a:=λo=>dI W o;go_enter func10,ntmps10;go_wp2_with fail;go_ret;exact⟨rfl,a _⟩
theorem a0a (hE:EE E W):aJ 7 #[eV (E 2),ag 2] W λe w'=>e=ax (.bool true)/\aD W w':=by
 have a:=a6I (E:=E) 2 aC aC W hE;go_enter func7,ntmps7;go_wp2_with(go_at_call 16;refine a.mono ?_;rintro e c ⟨rfl,b⟩);go_ret;exact⟨rfl,b⟩
theorem XD {x:Bs}(h:wL (Lib.cut x [32]).1=none\/((fmC (wL (Lib.cut x [32]).1))=(0,false,false)/\(Lib.cut x [32]).2.2=true)):jH x=none:=by
 have e:(Lib.cut (Sw x) [32]).1=(Lib.cut x [32]).1/\((Lib.cut x [32]).2.2=true->(Lib.cut (Sw x) [32]).2.2=true):=by
  unfold Sw;split
  .next c=>subst c;exact⟨az,λ_=>az⟩
  .grind
 unfold jH;rw[e.1];rcases h with h|⟨a,d⟩
 .rw[h]
 .cases b:wL (Lib.cut x [32]).1 with
  |none=>rfl
  |some i=>
   rw[b] at a;have g:=N9 b;have f:Ec i=[]:=by
    unfold fmC fmT at a;rcases i with _|_|_|_|_|_|_|_|_|_|_|_|_|i
    all_goals first|rfl|(exact absurd a aC)|omega
   show(iP (Ec i) _).map _=none;rw[f,iP,e.2 d];rfl
end
abbrev txT:Bs:=[108,101,97,100,108,105,103,104,116,58,32,116,101,120,116]
theorem a0b (x:Bs):∃(w0:Bs) (r:List Bs) (a:Int) (b c d:Bool),pieces 32 x=w0::r/\wL w0=wL w0/\(fmC (wL w0)).1=a/\(fmC (wL w0)).2.1=b/\(fmC (wL w0)).2.2=c/\(wL w0).isSome=d/\((d=false/\a=0/\b=false/\c=false/\jH x=none)\/(d=true/\((a==0)=false\/(a=0/\b=true)\/(a=0/\b=false/\c=true)\/(a=0/\b=false/\c=false/\((r≠[]/\jH x=none)\/r=[]))))):=by
 obtain⟨r,g,j⟩:=Lr 32 x;refine⟨_,r,_,_,_,_,g,rfl,rfl,rfl,rfl,rfl,?_⟩;cases e:wL (Lib.cut x [32]).1 with
 |none=>exact .inl ⟨rfl,rfl,rfl,rfl,XD (.inl e)⟩
 |some i=>
  refine .inr ⟨rfl,?_⟩;rcases hF:fmC (some i) with⟨a,b,c⟩;by_cases h:a=0
  .subst h;cases b with
   |true=>exact .inr (.inl ⟨rfl,rfl⟩)
   |false=>
    cases c with
    |true=>exact .inr (.inr (.inl ⟨rfl,rfl,rfl⟩))
    |false=>
     refine .inr (.inr (.inr ⟨rfl,rfl,rfl,?_⟩));by_cases f:r=[]
     .exact .inr f
     .refine .inl ⟨f,XD (.inr ⟨by rw[e];exact hF,?_⟩)⟩;grind
  .grind
variable {E:Nat->Addr}{T:Nat->Bs}{W:ah}
theorem Eo (Y:EE E W)(hE:PE E W)(hT:Sz E T W)(Z:T 1=txT)(L:List aM)(ol:Option Addr)(kl:Nat)(ha:qJ W ol L):
  aJ 3 #[aj ol L.length kl] W λe w'=>e=ax (.bool true)/\aD W w':=by
 have HL:=a08 hE hT;have HE:Hid (PE E W/\Sz E T W/\T 1=txT):=⟨hE,hT,Z⟩;have HA:=aA ha;obtain⟨i0,hi,b9,c0,c5⟩:=info_parts I4;obtain⟨n,hn⟩:∃n,L.length=n:=⟨_,rfl⟩;have HN:=aA hn;rw[hn];have c6:=aA Y;clear hE Y hT Z ha hn;by_cases hb:110<n
 .have a4:(110:Int)<(n:Int):=aa;go_enter func3,ntmps3;go_wp2_with(go_at_call 5;refine HL.mono ?_;rintro e w1 ⟨rfl,b1⟩);go_ret;exact⟨rfl,b1⟩
 have a4:¬(110:Int)<(n:Int):=aa;go_enter func3,ntmps3;go_upto_region 5 with(go_at_call 5;refine HL.mono ?_;rintro e w1 ⟨rfl,b1⟩);have O:=aA b1;clear HL b1;go_wp2_with fail
 go_loopw [4,5] (λu i wr=>∃(k:Nat) (o:Option Addr) (m cp:Nat),k<=n/\u=aj o m cp/\i=ag k/\m=k/\wr.ownsRow w1.heap.size 9 1 (aj o m cp) m ((L.take k).map ak)/\aD w1 wr/\Hid (∀s∈L.take k,s.size<=100)) (λ_ i _=>n-(intOf i).toNat)
 case atStart=>exact⟨0,none,0,0,bf _,rfl,rfl,rfl,gp _ _ _ _,aQ _ _,λs w=>by simp at w⟩
 case round=>
  obtain⟨k,o,m,cp,hk,rfl,rfl,hm,f,y,z⟩:=hrel;by_cases F:k<n
  .have a5:(k:Int)<(n:Int):=aa;obtain⟨s,w⟩:∃s,L[k]? =some s:=⟨_,eZ (by rw[HN.out];exact F)⟩;obtain⟨b0,P,rfl,N⟩:=HA.out k s w;have N:wr.cell? (aH b0 (P+k))=some (ak s):=((aW O.out y).cell (aR N)).trans N;by_cases U:100<s.size
   .have c8:(100:Int)<(s.size:Int):=aa;have hW:=aW O.out y;clear w z f y;go_wp2_with fail;go_ret;exact⟨rfl,hW⟩
   have c8:¬(100:Int)<(s.size:Int):=aa;have HT:Hid ((L.take (k+1)).map Value.string=(L.take k).map Value.string++[ak s]):=by
    show _=_;rw[dS,w];simp
   have HS:Hid (∀s∈L.take (k+1),s.size<=100):=λx A=>by
    rw[dS,w] at A;rcases gT.1 A with A|A
    .exact z.out x A
    .simp at A;subst A;omega
   have e2:=y.size;have wY:=ig f (ai #[ak s] 9);have H0:=eO wr (ai #[ak s] 9);clear w z;subst hm;go_upto_region 10 with fail;go_wp2_with(at_builtin;refine wpList_append_own _ rfl _ _ 22 rfl w1.heap.size 9 i0 (ak ⟨#[]⟩) 1 16 underlying22 hi b9 c0 c5 rfl aC _ _ _ rfl wY ⟨wr.heap.size,0,none⟩ 1 1 [ak s] rfl rfl (World.news_of_block H0) (λu C=>by simp at C;subst C;rfl) (by simp only[maxLen];omega) aa aX ?_;intro v7 w7 kz l9 _;obtain⟨o7,c7,rfl⟩:=bg kz)
   go_roundw
   case rel=>exact⟨m+1,o7,_,c7,aa,rfl,by go_num,rfl,by rw[HT.out];exact kz,(y.alloc aa _).grown l9 aX (λj hj=>(f.lt j hj).1),HS.out⟩
   case measure=>simp[intOf];omega
  .obtain rfl:k=n:=aa;rw[jg (Nat.le_of_eq HN.out)] at f z;obtain⟨oo,cc,d0,d1, -, -, -⟩:=eT f;cases d0;subst hm;have HO:=aA f;have bW:=aW O.out y;have X:=aA bW;have a6:=aA z;clear f y z hb a4 bW;by_cases d2:100<m
   .have d3:(100:Int)<(m:Int):=aa;have RL:=a4J (o:=o) (n:=m) (cp:=cp) (HE.out.1.below X.out) d2;have CD:=λV (hV:aD wr V)=>a0a (E:=E) (W:=V) (c6.out.below (aW X.out hV) ay);go_wp2_with(first|(go_at_call 6;refine RL.mono ?_;rintro e w2 ⟨rfl,b2⟩)|(go_at_call 7;refine(CD w2 b2).mono ?_;rintro e w3 ⟨rfl,b3⟩));go_ret;exact⟨rfl,aW (aW X.out b2) b3⟩
   have d3:¬(100:Int)<(m:Int):=aa;have H:(L.map bS).length=m:=by rw[dF];exact HN.out
   obtain⟨ss,us,c1,c2,c3⟩:=XA (E:=E) (T:=T) (L.map bS) 0 s00 am2 aa (λx A=>by
    obtain⟨s,w,rfl⟩:=gu.1 A;have:=a6.out s w;show s.data.toList.length<=1000;have h5:s.data.toList.length=s.size:=rfl;omega)
   have hX:qJ wr o ((L.map bS).map λx=>⟨x.toArray⟩):=by
    rw[List.map_map];have h5:(L.map ((λx:Bs=>(⟨x.toArray⟩:aM))∘bS))=L:=by
     rw[show((λx:Bs=>(⟨x.toArray⟩:aM))∘bS)=id from rfl,List.map_id]
    rw[h5];obtain⟨o',c',D, -, -,h2⟩:=qJ.own HO.out;injection D with D;rw[D];exact h2
   have RN:=XC (HE.out.1.below X.out) (HE.out.2.1.below X.out) ss (L.map bS) us m H (c2.trans H) aa c1 (λi x u A C=>(c3 i x u A C).1) o cp hX d1;have HC:Hid (us.length=m/\∀i x u,(L.map bS)[i]? =some x->us[i]? =some u->jH x=none->u=T 1):=⟨c2.trans H,λi x u A C=>(c3 i x u A C).2⟩;clear c1 c2 c3 hX H;go_upto_region 12 with(go_at_call 6;refine RN.mono ?_;rintro e w2 ⟨v,rfl,Q,b2⟩);obtain⟨oR,cR,rfl⟩:=bg Q;have HR:=aA Q;have a7:Hid (aD W w2):=aW X.out b2;clear RN Q b2;go_wp2_with fail;obtain⟨wo,rfl⟩:∃V,V=wr:=⟨wr,rfl⟩
   go_loopw [8] (λi wr=>∃k:Nat,k<=m/\i=ag k/\aD w2 wr) (λi _=>m-(intOf i).toNat)
   case atStart=>exact⟨0,bf _,rfl,aQ _ _⟩
   case round=>
    obtain⟨k,hk,rfl,y⟩:=hrel;by_cases F:k<m
    .have a5:(k:Int)<(m:Int):=aa;obtain⟨s,w⟩:∃s,L[k]? =some s:=⟨_,eZ (by rw[HN.out];exact F)⟩;obtain⟨u,C⟩:∃u,us[k]? =some u:=⟨_,eZ (by rw[HC.out.1];exact F)⟩;obtain⟨b0,P,rfl,N⟩:=HA.out k s w;have N:wr.cell? (aH b0 (P+k))=some (ak s):=((aW a7.out y).cell (aR N)).trans N;obtain⟨gR,a8,cu⟩:=dO (bD HR.out y) k (bV u) (by rw[iN,C];rfl);obtain rfl:oR=some ⟨gR,0,none⟩:=by
      rcases HR.out.2 with⟨_,D⟩|⟨g1,d4,d6,D,_⟩
      .omega
      .cases D;cases a8;rfl
     obtain⟨w0,r,a,b,c,is,hp, -,a9,b5,b6,b7,d7⟩:=a0b (bS s);have CT:=a8O s 32 wr (by have:=a6.out s (gN w);omega);have b8:pieces 32 s.data.toList=w0::r:=hp;rw[b8] at CT;have FO:=λV=>Vs w0 V;rw[a9,b5,b6,b7] at FO;have HU:Hid (jH (bS s)=none->bV u=bV txT):=λh=>by
      rw[HC.out.2 k (bS s) u (by rw[iN,w];rfl) C h,HE.out.2.2]
     have R:aJ 8 #[ak s,.int .u8 32] wr λe w'=>∃g cp,e=ax (aj (some ⟨g,0,none⟩) (r.length+1) cp)/\w'.cell? (aH g 0)=some (bV w0)/\aD wr w':=CT.mono λe w' ⟨v,g1,g2,g3⟩=>by
      obtain⟨o9,c9,rfl⟩:=bg g2;obtain⟨g9,e9,h9⟩:=dO g2 0 (bV w0) rfl;obtain rfl:o9=some ⟨g9,0,none⟩:=by
       rcases g2.2 with⟨_,D⟩|⟨g1,d4,d6,D,_⟩
       .cases D
       .cases D;cases e9;rfl
      exact⟨g9,c9,by rw[g1];rfl,h9,g3⟩
     obtain⟨q,hq⟩:∃q,r.length+1=q:=⟨_,rfl⟩;rw[hq] at R;have HQ:=aA hq;have e3:(0:Int)<(q:Int):=aa;clear CT hp b8 a9 b5 b6 b7 w C a8 hq;go_upto_region 20 with(go_at_call 8;refine R.mono ?_;rintro e w4 ⟨g4,c4,rfl,cw,b4⟩);go_upto_region 21 with(go_at_call 9;refine(FO _).mono ?_;rintro e I ⟨rfl,rfl⟩);have B4:=aN y b4;have J:=(b4.cell (aR cu)).trans cu;have l:r≠[]->(1:Int)<(q:Int):=λh=>by
      have h1:=HQ.out;have h2:=List.length_pos_iff.2 h;omega
     have t:r=[]->¬(1:Int)<(q:Int):=λh=>by
      have h1:=HQ.out;rw[h] at h1;simp at h1;omega
     have q1:∀d os,aJ 10 #[ag 1] (Go.Sort.grow (redrawn I d) os) λe d8=>e=ax (bV txT)/\∃p:Regrown,d8=Go.Sort.grow (redrawn I p.d) p.os:=λd os=>Calls.regrown_of (JI _);have K:∀V,aD I V->aD w2 V:=λV hV=>aN B4 hV;have f0:=K I (aQ _ _);have f1:=K I.drew (aQ _ _).drew;clear FO R N cu y b4 B4 cw;rcases d7 with⟨rfl,rfl,rfl,rfl,U⟩|⟨rfl,ha|⟨rfl,rfl⟩|⟨rfl,rfl,rfl⟩|⟨rfl,rfl,rfl,⟨hr,U⟩|hr⟩⟩
     .rw[HU.out U] at J;have r0:=cell_regrown J;clear l t U;go_upto_region 22 with fail;refine wp_region_quiet_below az az ?_
      repeat(go_big_quiet_step ((go_at_call 10;exact q1 _ _)))
      refine wpQuiet_nil ?_;intro _ S;obtain⟨M,B⟩:=S;subst B;have f6:=K _ (below_regrown I M.d M.os);generalize Go.Sort.grow (redrawn I M.d) M.os=d9 at f6⊢;go_wp2_with fail
      go_roundw
      case rel=>exact⟨k+1,aa,by go_num,f6⟩
      case measure=>simp[intOf];omega
     .clear l t;go_upto_region 22 with fail;go_region
      all_goals
       go_wp2_with fail
       go_roundw
       case rel=>exact⟨k+1,aa,by go_num,fC⟩
       case measure=>simp[intOf];omega
     .clear l t;go_upto_region 22 with fail;go_region
      all_goals
       go_wp2_with fail
       go_roundw
       case rel=>exact⟨k+1,aa,by go_num,fC⟩
       case measure=>simp[intOf];omega
     .clear l t;go_upto_region 22 with fail;go_region
      all_goals
       go_wp2_with fail
       go_roundw
       case rel=>exact⟨k+1,aa,by go_num,fC⟩
       case measure=>simp[intOf];omega
     .rw[HU.out U] at J;have r0:=cell_regrown J;have e0:=l hr;clear l t U hr;go_upto_region 22 with fail;refine wp_region_quiet_below az az ?_
      repeat(go_big_quiet_step ((go_at_call 10;exact q1 _ _)))
      refine wpQuiet_nil ?_;intro _ S;obtain⟨M,B⟩:=S;subst B;have f6:=K _ (below_regrown I M.d M.os);generalize Go.Sort.grow (redrawn I M.d) M.os=d9 at f6⊢;go_wp2_with fail
      go_roundw
      case rel=>exact⟨k+1,aa,by go_num,f6⟩
      case measure=>simp[intOf];omega
     .have e0:=t hr;clear l t hr;go_upto_region 22 with fail;go_region
      all_goals
       go_wp2_with fail
       go_roundw
       case rel=>exact⟨k+1,aa,by go_num,fC⟩
       case measure=>simp[intOf];omega
    .obtain rfl:k=m:=aa;have hF:=aW a7.out y;go_wp2_with fail;go_ret;exact⟨rfl,hF⟩
