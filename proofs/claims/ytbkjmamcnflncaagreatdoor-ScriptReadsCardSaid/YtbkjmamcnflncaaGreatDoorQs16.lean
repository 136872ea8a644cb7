import Derived.Test.YtbkjmamcnflncaaGreatDoorQs10
namespace Go.Proofs.YtbkjmamcnflncaaGreatDoor
open Go.Proofs.Tryz
set_option maxHeartbeats 4000000
section
theorem a1V (s:Bs)(j:Nat)(c:UInt8)(h:s[j]? =some c):((⟨s.toArray⟩:aM).data[j]!)=c:=by grind
theorem gL (s:Bs):(⟨s.toArray⟩:aM).size=s.length:=by simp[ByteArray.size]
theorem YC {s:Bs}(h:lastB s=none):Lib.lastIndexByte ⟨s.toArray⟩ 32= -1:=by
 rcases Lib.lastIndexByte_spec ⟨s.toArray⟩ 32 with⟨a, -⟩|⟨i,b,a,c, -⟩
 .exact a
 .exfalso;rw[gL] at b;have d:s[i]? =some s[i]:=by grind
  rw[a1V s i _ d] at c;have e:s[i]=32:=by
   rw[<- UInt8.toNat_inj];grind
  exact qj h (by rw[<- e];exact List.getElem_mem b)
theorem YD {s a b:Bs}(h:lastB s=some (a,b)):Lib.lastIndexByte ⟨s.toArray⟩ 32=a.length:=by
 obtain⟨e,l⟩:=nL h;have f:s[a.length]? =some 32:=by grind
 rcases Lib.lastIndexByte_spec ⟨s.toArray⟩ 32 with⟨-,d⟩|⟨i,g,d,j,k⟩
 .exfalso;have c:=d a.length (by rw[gL,e];simp);rw[a1V s _ _ f] at c;exact c rfl
 .rw[d];rw[gL] at g k;have c:s[i]? =some s[i]:=by grind
  rw[a1V s i _ c] at j;have m:s[i]=32:=by
   rw[<- UInt8.toNat_inj];grind
  grind
theorem Wt (a p:Bs):Lib.hasSuffix a p=decide (a.drop (a.length-p.length)=p):=by
 unfold Lib.hasSuffix;rw[Bool.eq_iff_iff,kZ,List.isSuffixOf_iff_suffix];constructor
 .rintro⟨t,rfl⟩;rw[dJ,Nat.add_sub_cancel,List.drop_left]
 .intro h;refine⟨a.take (a.length-p.length),?_⟩;have b:=jJ (a.length-p.length) a;grind
theorem a6x (a:Bs):Lib.hasSuffix a [32,62]=(J8 a).isSome/\Lib.trimSuffix a [32,62]=(J8 a).getD a:=by
 unfold Lib.trimSuffix;rw[Wt];unfold J8;grind
theorem any_mk (c:UInt8):([35,46,91]:List UInt8).contains c=XI c:=by
 unfold XI;grind
theorem any_none:∀{s:Bs},iB s=none->Lib.indexAny s [35,46,91]= -1
 |[],_=>rfl
 |c::s,h=>by
  rw[iB] at h;split at h
  .cases h
  .rename_i a;have b:iB s=none:=by grind
   rw[Lib.indexAny,any_mk,if_neg a,any_none b];rfl
theorem any_some:∀{s a r:Bs} {m:UInt8},iB s=some (a,m,r)->Lib.indexAny s [35,46,91]=a.length
 |[],_,_,_,h=>by simp[iB] at h
 |c::s,a,r,m,h=>by
  rw[iB] at h;split at h
  .rename_i b;cases h;rw[Lib.indexAny,any_mk,if_pos b];rfl
  .rename_i b;cases d:iB s with
   |none=>rw[d] at h;cases h
   |some x=>
    obtain⟨f,g,i⟩:=x;rw[d] at h;cases h;have e:=any_some d;rw[Lib.indexAny,any_mk,if_neg b,e,if_neg (by rw[beq_iff_eq];omega)];grind
end
open Go.RowKit Go.Shelf
abbrev bV (s:Bs):au:=ak ⟨s.toArray⟩
theorem iL (s l:Bs):((⟨s.toArray⟩:aM).toList==l)=(s==l):=by
 rw[gz]
theorem aaQ (s:Bs):(⟨s.toArray⟩:aM).data.toList=s:=rfl
theorem Ad (k c:UInt8):((k.toNat:Int)==(c.toNat:Int))=(k==c):=by
 by_cases h:k=c
 .subst h;simp
 .rw[dL.2 h,dL];intro e;exact h (UInt8.toNat_inj.1 aa)
theorem wm (s:Bs)(w:ah):aJ 229 #[bV s] w λe w'=>e=ax (.bool (Ct s))/\w'=w:=by
 have a:=iL s [];have b:=iL s [42];unfold Ct;cases c:(s==[]) with
 |true=>
  rw[c] at a;go_enter func229,ntmps229;go_wp2_with fail;go_ret;exact⟨rfl,rfl⟩
 |false=>
  rw[c] at a;cases d:(s==[42]) with
  |true=>
   rw[d] at b;go_enter func229,ntmps229;go_wp2_with fail;go_ret;exact⟨rfl,rfl⟩
  |false=>
   rw[d] at b;go_enter func229,ntmps229;go_wp2_with fail;go_ret;exact⟨rfl,rfl⟩
theorem U5 (k:UInt8)(s:Bs)(hs:s.length<=1000000)(w:ah):aJ 162 #[.int .u8 k.toNat,bV s] w λe w'=>e=ax (.bool (SX (k,s)))/\w'=w:=by
 have a:=wm s w;have c:aJ 177 #[bV s] w λe w'=>e=ax (.bool (iF s))/\w'=w:=jA ⟨s.toArray⟩ (by rw[gL];omega) w;have d:((k.toNat:Int)==0)=(k==0):=Ad k 0;unfold SX;simp only;cases f:(k==0) with
 |false=>
  rw[f] at d;go_enter func162,ntmps162;go_wp2_with(go_at_call 177;refine c.mono ?_;rintro e b ⟨rfl,h⟩;rw[h];clear h);go_ret;exact⟨aG,rfl⟩
 |true=>
  rw[f] at d;cases g:Ct s with
  |true=>
   rw[g] at a;go_enter func162,ntmps162;go_wp2_with(go_at_call 229;refine a.mono ?_;rintro e b ⟨rfl,h⟩;rw[h];clear h);go_ret;exact⟨rfl,rfl⟩
  |false=>
   rw[g] at a;go_enter func162,ntmps162;go_wp2_with(first|(go_at_call 229;refine a.mono ?_;rintro e b ⟨rfl,h⟩;rw[h];clear h)|(go_at_call 177;refine c.mono ?_;rintro e b ⟨rfl,h⟩;rw[h];clear h));go_ret;exact⟨aG,rfl⟩
theorem Gs (k:UInt8)(s:Bs)(hs:s.length<=1000000)(w:ah):aJ 228 #[.int .u8 k.toNat,bV s] w λe w'=>e=ax (bV (qm k s))/\w'=w:=by
 have a:aJ 119 #[bV s,ak ⟨#[93]⟩] w λe w'=>e=ax (aF #[bV (Lib.trimSuffix s [93]),.bool (Lib.hasSuffix s [93])])/\w'=w:=Tryz.strings_CutSuffix ⟨s.toArray⟩ ⟨#[93]⟩ w (by rw[gL];omega);have g:((k.toNat:Int)==91)=(k==91):=Ad k 91;have f:((k.toNat:Int) !=91)= !(k==91):=by rw[bne,g]
 by_cases b:k=91
 .have c:(k==91)=true:=by rw[b];rfl
  rw[c] at f g;unfold qm;rw[if_pos b];have i:=Wt s [93];unfold Lib.trimSuffix at a;rw[i] at a;by_cases d:s.drop (s.length-1)=[93]
  .rw[if_pos d];rw[show(decide (s.drop (s.length-([93]:Bs).length)=[93]))=true from decide_eq_true d,if_pos rfl] at a;clear i d b;go_enter func228,ntmps228;go_wp2_with(go_at_call 119;refine a.mono ?_;rintro e j ⟨rfl,h⟩;rw[h];clear h);go_ret;exact⟨rfl,rfl⟩
  .rw[if_neg d];rw[show(decide (s.drop (s.length-([93]:Bs).length)=[93]))=false from iH d,if_neg aG] at a;clear i d b;go_enter func228,ntmps228;go_wp2_with(go_at_call 119;refine a.mono ?_;rintro e j ⟨rfl,h⟩;rw[h];clear h);go_ret;exact⟨rfl,rfl⟩
 .have c:(k==91)=false:=by rw[dL];exact b
  rw[c] at f g;unfold qm;rw[if_neg b];clear a b;go_enter func228,ntmps228;go_wp2_with fail;go_ret;exact⟨rfl,rfl⟩
theorem Mq (k:UInt8)(s:Bs)(w:ah):aJ 292 #[.int .u8 k.toNat,bV s] w λe w'=>e=ax (ag (NS (k,s):Nat))/\w'=w:=by
 have d:=wm s w;have m:((k.toNat:Int)==35)=(k==35):=Ad k 35;have g:((k.toNat:Int)==46)=(k==46):=Ad k 46;have f:((k.toNat:Int)==91)=(k==91):=Ad k 91;unfold NS;simp only;by_cases a:k=35
 .have i:(k==35)=true:=by rw[a];rfl
  rw[i] at m;rw[if_pos a];clear a g f;go_enter func292,ntmps292;go_wp2_with fail;go_ret;exact⟨rfl,rfl⟩
 have i:(k==35)=false:=by rw[dL];exact a
 rw[i] at m;rw[if_neg a];by_cases b:k=46
 .have j:(k==46)=true:=by rw[b];rfl
  rw[j] at g;rw[if_pos (.inl b)];clear a b f;go_enter func292,ntmps292;go_wp2_with fail;go_ret;exact⟨rfl,rfl⟩
 have j:(k==46)=false:=by rw[dL];exact b
 rw[j] at g;by_cases c:k=91
 .have l:(k==91)=true:=by rw[c];rfl
  rw[l] at f;rw[if_pos (.inr c)];clear a b c;go_enter func292,ntmps292;go_wp2_with fail;go_ret;exact⟨rfl,rfl⟩
 have l:(k==91)=false:=by rw[dL];exact c
 rw[l] at f;rw[if_neg (by rintro(h|h);exact b h;exact c h)];clear a b c;cases n:Ct s with
 |true=>
  rw[n] at d;go_enter func292,ntmps292;go_wp2_with(go_at_call 229;refine d.mono ?_;rintro e o ⟨rfl,h⟩;rw[h];clear h);go_ret;exact⟨rfl,rfl⟩
 |false=>
  rw[n] at d;go_enter func292,ntmps292;go_wp2_with(go_at_call 229;refine d.mono ?_;rintro e o ⟨rfl,h⟩;rw[h];clear h);go_ret;exact⟨rfl,rfl⟩
theorem a1W {B:Nat}{w v:ah}(h:Below B w v):Below B w v.drew:=⟨h.os,h.tape,h.output,h.size,h.block⟩
theorem Mr (u v:Bs):(⟨(u++v).toArray⟩:aM).extract 0 u.length=⟨u.toArray⟩:=by
 apply ByteArray.ext;simp
theorem Wu (u v:Bs)(c:UInt8)(n:Nat)(a:n=(u++c::v).length):(⟨(u++c::v).toArray⟩:aM).extract (u.length+1) n=⟨v.toArray⟩:=by
 subst a;apply ByteArray.ext;simp;exact jg aa
theorem Ms (s a b:Bs)(k:Lk)(h:uS s=(a,k,b))(hs:s.length<=1000000)(w:ah):aJ 160 #[bV s] w λe w'=>e=ax (aF #[bV a,bV k.bs,bV b])/\aD w w':=by
 have j:aJ 225 #[bV s,.int .u8 32] w λe w'=>e=ax (ag (Lib.lastIndexByte ⟨s.toArray⟩ 32))/\w'=w:=Tryz.strings_LastIndexByte ⟨s.toArray⟩ 32 (by rw[gL];omega) w;unfold uS at h;cases d:lastB s with
 |none=>
  rw[d] at h;cases h;rw[YC d] at j;clear d;go_enter func160,ntmps160;go_wp2_with(go_at_call 225;refine j.mono ?_;rintro e y ⟨rfl,h⟩;rw[h];clear h);refine bodyPost_ret (v:=aF #[bV [],bV Lk.no.bs,bV s]) (by simp[results,results160,go_sem,Lk.bs]) rfl ⟨rfl,aQ _ _⟩
 |some x=>
  obtain⟨u,v⟩:=x;rw[d] at h;simp only at h;rw[YD d] at j;obtain⟨C, -⟩:=nL d;subst C;clear d;have c:(u++32::v).length=u.length+(v.length+1):=aG;have D:(u.length:Int)<=((⟨(u++32::v).toArray⟩:aM).size:Int):=by rw[gL,c];omega
  have E:¬(u.length:Int)<0:=aa;have F:u.length<=1000000:=aa;obtain⟨l,m⟩:=a6x u;have n:aJ 119 #[ak ((⟨(u++32::v).toArray⟩:aM).extract 0 u.length),ak ⟨#[32,62]⟩] w λe w'=>e=ax (aF #[bV ((J8 u).getD u),.bool (J8 u).isSome])/\w'=w:=by
   rw[Mr,<- l,<- m];exact Tryz.strings_CutSuffix ⟨u.toArray⟩ ⟨#[32,62]⟩ w (by rw[gL];omega)
  clear l m;obtain⟨o,H⟩:∃o:Nat,(u.length:Int)+1=o:=⟨u.length+1,aa⟩;have z:(o:Int)<=((⟨(u++32::v).toArray⟩:aM).size:Int):=by rw[gL,c];omega
  have f:(⟨(u++32::v).toArray⟩:aM).extract o (u++32::v).length=⟨v.toArray⟩:=by
   rw[show o=u.length+1 from by omega];exact Wu u v 32 _ rfl
  have g:=Mr u (32::v);obtain⟨s,p⟩:∃s,u++32::v=s:=⟨_,rfl⟩;rw[p] at j n D z f g⊢;have q:=aA f;have A:=aA g;clear p hs c f g;cases B:J8 u with
  |some x=>
   rw[B] at h n;cases h;go_enter func160,ntmps160;go_upto_region 6 with(first|(go_at_call 225;refine j.mono ?_;rintro e y ⟨rfl,h⟩;rw[h];clear h)|(go_at_call 119;refine n.mono ?_;rintro e y ⟨rfl,h⟩;rw[h];clear h));go_region;go_wp2_with fail;have r:=a1W (aQ w.heap.size w);obtain⟨t,i⟩:∃t,w.drew=t:=⟨_,rfl⟩;rw[i] at r⊢;rw[q.out];refine bodyPost_ret (v:=aF #[bV a,ak ⟨#[32,62,32]⟩,bV b]) (by simp[results,results160,go_sem]) rfl ⟨rfl,r⟩
  |none=>
   rw[B] at h n;cases h;go_enter func160,ntmps160;go_upto_region 7 with(first|(go_at_call 225;refine j.mono ?_;rintro e y ⟨rfl,h⟩;rw[h];clear h)|(go_at_call 119;refine n.mono ?_;rintro e y ⟨rfl,h⟩;rw[h];clear h));go_region;go_wp2_with fail;have r:=a1W (aQ w.heap.size w);obtain⟨t,i⟩:∃t,w.drew=t:=⟨_,rfl⟩;rw[i] at r⊢;rw[q.out,A.out];refine bodyPost_ret (v:=aF #[bV a,ak ⟨#[32]⟩,bV b]) (by simp[results,results160,go_sem]) rfl ⟨rfl,r⟩
set_option maxRecDepth 100000
attribute [local go_sem] Oper.semAt_some
def Q5:au->Nat
 |ak s=>s.size
 |_=>0
theorem BF (s:Bs):Q5 (bV s)=s.length:=gL s
theorem wu {A C:ah}(h:aD A C):A.grownBy C none:=⟨h.os,h.tape,h.output,h.size,λk a _=>h.block k a⟩
def vo (B:Nat)(A C:ah):Prop:=C.heap[B]? =A.heap[B]?
theorem vo.trans {B:Nat}{X Y Z:ah}(h:vo B X Y)(k:vo B Y Z):vo B X Z:=Eq.trans k h
theorem vo.put {B:Nat}{w:ah}(b:B<w.heap.size)(W:ah)(l:Nat)(o a:Obj)(c:w.heap.size<=l)(_:W.heap[l]? =some o)(_:o.isCells=false)(_:o.isWalk=false):vo B W (W.putObj l a):=nH aa
theorem vo.of_below {B:Nat}{A C:ah}(h:aD A C)(a:B<A.heap.size):vo B A C:=h.block B a
theorem De (s:Bs)(w:ah):aJ 98 #[bV s] w λe w'=>e=ax (.func (.func 159) #[] #[aI w.heap.size])/\w'=w.alloc (ai #[bV s] 9):=by
 go_enter func98,ntmps98;go_wp2;go_ret;exact⟨rfl,rfl⟩
abbrev StB:={x:Bs//x.length<=1000000}
abbrev Kn (l:List StB):List Bs:=l.map Subtype.val
theorem Ko (s:Bs)(hs:s.length<=1000000)(n:Nat)(B:Nat)(w0:ah)(Z:w0.heap[B]? =some (ai #[bV s] 9)):
  SeqStopsK Fence.wide n prog 159 #[aI B] (λx:StB=>#[bV x.1]) (vo B) (λxs=>Kn xs=jv s) (λp=>Kn p<+:jv s) (jv s).length w0:=by
 intro l J Jx W hW hJ a6 hY h0;have y:B<w0.heap.size:=(dZ.1 Z).1;have z:W.heap[B]? =some (ai #[bV s] 9):=(hW.block B y).trans Z;have c0:W.cell? (aH B 0)=some (bV s):=by simp[World.cell?,z]
 have D:∀p A C,J p A->aD A C->J p C:=λp A C h hb=>hJ p A C none h (wu hb) (λr e=>by cases e);obtain⟨a,k,b,hc⟩:∃a k b,uS s=(a,k,b):=⟨_,_,_,rfl⟩;have O:=Ms s a b k hc hs W;refine callsIn_of_wp func159 rfl trivial ?_ rfl;simp only[ntmps159,ji,eP,iO,Nat.reduceAdd,Nat.reduceSub,jM,jL,jO,jN,gF,fV]
 gi_wp2_with (refine⟨trivial,(λh=>by cases h),?_⟩;gi_at_call 160;refine(callsIn_wide.2 O).mono ?_;rintro e w1 ⟨rfl,E⟩)
 gi_loopw [3,4,5] (λP Q y5 wr=>∃(pre:List StB) (t a:Bs) (k:Lk) (b:Bs),uS t=(a,k,b)/\t.length<=1000000/\Kn pre++jv t=jv s/\P=bV a/\Q=bV k.bs/\y5=bV b/\J pre wr/\vo B W wr) (λP Q _ _=>2*Q5 P+(if Q5 Q=0 then 0 else 1))
 case atStart=>exact⟨[],s,a,k,b,hc,hs,rfl,rfl,rfl,rfl,D _ _ _ h0 E,E.block B (dP y hW.size)⟩
 case round=>
  obtain⟨pre,t,a,k,b,d,R,f,rfl,rfl,rfl,S,F⟩:=hrel;have T:pre.length<(jv s).length:=by
   rw[<- f,dJ,dF];have:0<(jv t).length:=by
    by_cases j:k=.no
    .subst j;rw[NY d];simp
    .rw[EW d j];simp
   omega
  have H:b.length<=1000000:=bu (JJ d) R;obtain⟨fn,a4,N,a5,hy,hR⟩:=hY pre ⟨b,H⟩ wr S T;by_cases j:k=.no
  .subst j;have g:=NY d;rw[g] at f;have I:((⟨Lk.no.bs.toArray⟩:aM).toList==[])=true:=by rw[iL];rfl
   have K:=aA f;clear f g d
   gi_wp2
   refine⟨(λh=>by cases h),hR.mono ?_⟩;rintro e U (⟨rfl,q,u⟩|⟨rfl,i⟩)
   .gi_wp2
    go_end0
    exact⟨⟨_,rfl⟩,.inl ⟨_,by rw[<- K.out];simp,q⟩⟩
   .gi_wp2
    go_end0
    exact⟨⟨_,rfl⟩,.inr ⟨_,by rw[<- K.out];simp,i⟩⟩
  .have g:=EW d j;have a7:=rP d j;rw[g] at f;have I:List.isEmpty k.bs=false:=by
    cases k with
    |no=>exact absurd rfl j
    |right=>rfl
    |below=>rfl
   have v:Q5 (bV k.bs)≠0:=by
    cases k with
    |no=>exact absurd rfl j
    |right=>decide
    |below=>decide
   obtain⟨w,o,L,c⟩:∃w o L,uS a=(w,o,L):=⟨_,_,_,rfl⟩;have X:Hid (∀V,aJ 160 #[bV a] V λe w'=>e=ax (aF #[bV w,bV o.bs,bV L])/\aD V w'):=λV=>Ms a w L o c aa V;have K:=aA f;obtain⟨kb,Y⟩:∃kb:Bs,k.bs=kb:=⟨_,rfl⟩;rw[Y] at I v⊢;clear f g j
   gi_wp2
   refine⟨(λh=>by cases h),hR.mono ?_⟩;rintro e U (⟨rfl,q,u⟩|⟨rfl,i⟩)
   .have O:=X.out U
    gi_wp2_with (refine⟨trivial,(λh=>by cases h),?_⟩;gi_at_call 160;refine(callsIn_wide.2 O).mono ?_;rintro e w4 ⟨rfl,M⟩)
    go_roundw
    case rel=>exact⟨pre++[⟨b,H⟩],a,w,o,L,c,aa,by rw[<- K.out];simp,rfl,rfl,rfl,D _ _ _ q M,(F.trans u).trans (M.block B (dZ.1 (Eq.trans (show U.heap[B]? =W.heap[B]? from F.trans u) z)).1)⟩
    case measure=>
     by_cases m:o=.no
     .have h1:w=[]:=by
       unfold uS at c;split at c
       .cases c;rfl
       .split at c<;>cases c<;>exact absurd m aG
      subst m h1;rw[if_neg v];simp[Q5,Lk.bs,ByteArray.size]
     .have h1:=rP c m;have h2:Q5 (bV o.bs)≠0:=by
       cases o with
       |no=>exact absurd rfl m
       |right=>decide
       |below=>decide
      rw[if_neg v,if_neg h2,BF,BF];omega
   .gi_wp2
    go_end0
    exact⟨⟨_,rfl⟩,.inr ⟨_,by rw[<- K.out];exact⟨jv a,aG⟩,i⟩⟩
