import Derived.Test.YtbkjmamcnflncaaGreatDoorQt10
namespace Go.Proofs.YtbkjmamcnflncaaGreatDoor
open Go.Proofs.Tryz
set_option maxHeartbeats 4000000
section
theorem a2J (s:Bs)(j:Nat)(c:UInt8)(h:s[j]? =some c):((⟨s.toArray⟩:aO).data[j]!)=c:=by grind
theorem gY (s:Bs):(⟨s.toArray⟩:aO).size=s.length:=by simp[ByteArray.size]
theorem Zg {s:Bs}(h:lastB s=none):Lib.lastIndexByte ⟨s.toArray⟩ 32= -1:=by
 rcases Lib.lastIndexByte_spec ⟨s.toArray⟩ 32 with⟨a, -⟩|⟨i,b,a,c, -⟩
 .exact a
 .exfalso;rw[gY] at b;have d:s[i]? =some s[i]:=by grind
  rw[a2J s i _ d] at c;have e:s[i]=32:=by
   rw[<- UInt8.toNat_inj];grind
  exact qO h (by rw[<- e];exact List.getElem_mem b)
theorem Zh {s a b:Bs}(h:lastB s=some (a,b)):Lib.lastIndexByte ⟨s.toArray⟩ 32=a.length:=by
 obtain⟨e,l⟩:=oh h;have f:s[a.length]? =some 32:=by grind
 rcases Lib.lastIndexByte_spec ⟨s.toArray⟩ 32 with⟨-,d⟩|⟨i,g,d,j,k⟩
 .exfalso;have c:=d a.length (by rw[gY,e];simp);rw[a2J s _ _ f] at c;exact c rfl
 .rw[d];rw[gY] at g k;have c:s[i]? =some s[i]:=by grind
  rw[a2J s i _ c] at j;have m:s[i]=32:=by
   rw[<- UInt8.toNat_inj];grind
  grind
theorem Xm (a p:Bs):Lib.hasSuffix a p=decide (a.drop (a.length-p.length)=p):=by
 unfold Lib.hasSuffix;rw[Bool.eq_iff_iff,lG,List.isSuffixOf_iff_suffix];constructor
 .rintro⟨t,rfl⟩;rw[dO,Nat.add_sub_cancel,List.drop_left]
 .intro h;refine⟨a.take (a.length-p.length),?_⟩;have b:=jS (a.length-p.length) a;grind
theorem a7p (a:Bs):Lib.hasSuffix a [32,62]=(JH a).isSome/\Lib.trimSuffix a [32,62]=(JH a).getD a:=by
 unfold Lib.trimSuffix;rw[Xm];unfold JH;grind
theorem any_mk (c:UInt8):([35,46,91]:List UInt8).contains c=Yp c:=by
 unfold Yp;grind
theorem any_none:∀{s:Bs},iL s=none->Lib.indexAny s [35,46,91]= -1
 |[],_=>rfl
 |c::s,h=>by
  rw[iL] at h;split at h
  .cases h
  .rename_i a;have b:iL s=none:=by grind
   rw[Lib.indexAny,any_mk,aG a,any_none b];rfl
theorem any_some:∀{s a r:Bs} {m:UInt8},iL s=some (a,m,r)->Lib.indexAny s [35,46,91]=a.length
 |[],_,_,_,h=>by simp[iL] at h
 |c::s,a,r,m,h=>by
  rw[iL] at h;split at h
  .rename_i b;cases h;rw[Lib.indexAny,any_mk,aR b];rfl
  .rename_i b;cases d:iL s with
   |none=>rw[d] at h;cases h
   |some x=>
    obtain⟨f,g,i⟩:=x;rw[d] at h;cases h;have e:=any_some d;rw[Lib.indexAny,any_mk,aG b,e,aG (by rw[beq_iff_eq];omega)];grind
end
open Go.RowKit Go.Shelf
abbrev bV (s:Bs):ax:=au ⟨s.toArray⟩
theorem j5 (s l:Bs):((⟨s.toArray⟩:aO).toList==l)=(s==l):=by
 rw[gN]
theorem abD (s:Bs):(⟨s.toArray⟩:aO).data.toList=s:=rfl
theorem Be (k c:UInt8):((k.toNat:Int)==(c.toNat:Int))=(k==c):=by
 by_cases h:k=c
 .subst h;simp
 .rw[dW.2 h,dW];intro e;exact h (UInt8.toNat_inj.1 aa)
theorem wY (s:Bs)(w:ai):aL 229 #[bV s] w λe w'=>e=ay (.bool (Du s))/\w'=w:=by
 have a:=j5 s [];have b:=j5 s [42];unfold Du;cases c:(s==[]) with
 |true=>
  rw[c] at a;go_enter func229,ntmps229;go_wp2_with fail;go_ret;exact⟨rfl,rfl⟩
 |false=>
  rw[c] at a;cases d:(s==[42]) with
  |true=>
   rw[d] at b;go_enter func229,ntmps229;go_wp2_with fail;go_ret;exact⟨rfl,rfl⟩
  |false=>
   rw[d] at b;go_enter func229,ntmps229;go_wp2_with fail;go_ret;exact⟨rfl,rfl⟩
theorem UF (k:UInt8)(s:Bs)(hs:s.length<=1000000)(w:ai):aL 162 #[.int .u8 k.toNat,bV s] w λe w'=>e=ay (.bool (TZ (k,s)))/\w'=w:=by
 have a:=wY s w;have c:aL 177 #[bV s] w λe w'=>e=ay (.bool (iQ s))/\w'=w:=jK ⟨s.toArray⟩ (by rw[gY];omega) w;have d:((k.toNat:Int)==0)=(k==0):=Be k 0;unfold TZ;simp only;cases f:(k==0) with
 |false=>
  rw[f] at d;go_enter func162,ntmps162;go_wp2_with(go_at_call 177;refine c.mono ?_;rintro e b ⟨rfl,h⟩;rw[h];clear h);go_ret;exact⟨aI,rfl⟩
 |true=>
  rw[f] at d;cases g:Du s with
  |true=>
   rw[g] at a;go_enter func162,ntmps162;go_wp2_with(go_at_call 229;refine a.mono ?_;rintro e b ⟨rfl,h⟩;rw[h];clear h);go_ret;exact⟨rfl,rfl⟩
  |false=>
   rw[g] at a;go_enter func162,ntmps162;go_wp2_with(first|(go_at_call 229;refine a.mono ?_;rintro e b ⟨rfl,h⟩;rw[h];clear h)|(go_at_call 177;refine c.mono ?_;rintro e b ⟨rfl,h⟩;rw[h];clear h));go_ret;exact⟨aI,rfl⟩
theorem Hw (k:UInt8)(s:Bs)(hs:s.length<=1000000)(w:ai):aL 228 #[.int .u8 k.toNat,bV s] w λe w'=>e=ay (bV (qP k s))/\w'=w:=by
 have a:aL 119 #[bV s,au ⟨#[93]⟩] w λe w'=>e=ay (aH #[bV (Lib.trimSuffix s [93]),.bool (Lib.hasSuffix s [93])])/\w'=w:=Tryz.strings_CutSuffix ⟨s.toArray⟩ ⟨#[93]⟩ w (by rw[gY];omega);have g:((k.toNat:Int)==91)=(k==91):=Be k 91;have f:((k.toNat:Int) !=91)= !(k==91):=by rw[bne,g]
 by_cases b:k=91
 .have c:(k==91)=true:=by rw[b];rfl
  rw[c] at f g;unfold qP;rw[aR b];have i:=Xm s [93];unfold Lib.trimSuffix at a;rw[i] at a;by_cases d:s.drop (s.length-1)=[93]
  .rw[aR d];rw[show(decide (s.drop (s.length-([93]:Bs).length)=[93]))=true from decide_eq_true d,aR rfl] at a;clear i d b;go_enter func228,ntmps228;go_wp2_with(go_at_call 119;refine a.mono ?_;rintro e j ⟨rfl,h⟩;rw[h];clear h);go_ret;exact⟨rfl,rfl⟩
  .rw[aG d];rw[show(decide (s.drop (s.length-([93]:Bs).length)=[93]))=false from iU d,aG aI] at a;clear i d b;go_enter func228,ntmps228;go_wp2_with(go_at_call 119;refine a.mono ?_;rintro e j ⟨rfl,h⟩;rw[h];clear h);go_ret;exact⟨rfl,rfl⟩
 .have c:(k==91)=false:=by rw[dW];exact b
  rw[c] at f g;unfold qP;rw[aG b];clear a b;go_enter func228,ntmps228;go_wp2_with fail;go_ret;exact⟨rfl,rfl⟩
theorem Nn (k:UInt8)(s:Bs)(w:ai):aL 292 #[.int .u8 k.toNat,bV s] w λe w'=>e=ay (ag (OE (k,s):Nat))/\w'=w:=by
 have d:=wY s w;have m:((k.toNat:Int)==35)=(k==35):=Be k 35;have g:((k.toNat:Int)==46)=(k==46):=Be k 46;have f:((k.toNat:Int)==91)=(k==91):=Be k 91;unfold OE;simp only;by_cases a:k=35
 .have i:(k==35)=true:=by rw[a];rfl
  rw[i] at m;rw[aR a];clear a g f;go_enter func292,ntmps292;go_wp2_with fail;go_ret;exact⟨rfl,rfl⟩
 have i:(k==35)=false:=by rw[dW];exact a
 rw[i] at m;rw[aG a];by_cases b:k=46
 .have j:(k==46)=true:=by rw[b];rfl
  rw[j] at g;rw[aR (.inl b)];clear a b f;go_enter func292,ntmps292;go_wp2_with fail;go_ret;exact⟨rfl,rfl⟩
 have j:(k==46)=false:=by rw[dW];exact b
 rw[j] at g;by_cases c:k=91
 .have l:(k==91)=true:=by rw[c];rfl
  rw[l] at f;rw[aR (.inr c)];clear a b c;go_enter func292,ntmps292;go_wp2_with fail;go_ret;exact⟨rfl,rfl⟩
 have l:(k==91)=false:=by rw[dW];exact c
 rw[l] at f;rw[aG (by rintro(h|h);exact b h;exact c h)];clear a b c;cases n:Du s with
 |true=>
  rw[n] at d;go_enter func292,ntmps292;go_wp2_with(go_at_call 229;refine d.mono ?_;rintro e o ⟨rfl,h⟩;rw[h];clear h);go_ret;exact⟨rfl,rfl⟩
 |false=>
  rw[n] at d;go_enter func292,ntmps292;go_wp2_with(go_at_call 229;refine d.mono ?_;rintro e o ⟨rfl,h⟩;rw[h];clear h);go_ret;exact⟨rfl,rfl⟩
theorem a2K {B:Nat}{w v:ai}(h:Below B w v):Below B w v.drew:=⟨h.os,h.tape,h.output,h.size,h.block⟩
theorem Np (u v:Bs):(⟨(u++v).toArray⟩:aO).extract 0 u.length=⟨u.toArray⟩:=by
 apply ByteArray.ext;simp
theorem Xo (u v:Bs)(c:UInt8)(n:Nat)(a:n=(u++c::v).length):(⟨(u++c::v).toArray⟩:aO).extract (u.length+1) n=⟨v.toArray⟩:=by
 subst a;apply ByteArray.ext;simp;exact jH aa
theorem Nq (s a b:Bs)(k:Lk)(h:vQ s=(a,k,b))(hs:s.length<=1000000)(w:ai):aL 160 #[bV s] w λe w'=>e=ay (aH #[bV a,bV k.bs,bV b])/\aD w w':=by
 have j:aL 225 #[bV s,.int .u8 32] w λe w'=>e=ay (ag (Lib.lastIndexByte ⟨s.toArray⟩ 32))/\w'=w:=Tryz.strings_LastIndexByte ⟨s.toArray⟩ 32 (by rw[gY];omega) w;unfold vQ at h;cases d:lastB s with
 |none=>
  rw[d] at h;cases h;rw[Zg d] at j;clear d;go_enter func160,ntmps160;go_wp2_with(go_at_call 225;refine j.mono ?_;rintro e y ⟨rfl,h⟩;rw[h];clear h);refine bg (v:=aH #[bV [],bV Lk.no.bs,bV s]) (by simp[results,results160,go_sem,Lk.bs]) rfl ⟨rfl,aW _ _⟩
 |some x=>
  obtain⟨u,v⟩:=x;rw[d] at h;simp only at h;rw[Zh d] at j;obtain⟨C, -⟩:=oh d;subst C;clear d;have c:(u++32::v).length=u.length+(v.length+1):=aI;have D:(u.length:Int)<=((⟨(u++32::v).toArray⟩:aO).size:Int):=by rw[gY,c];omega
  have E:¬(u.length:Int)<0:=aa;have F:u.length<=1000000:=aa;obtain⟨l,m⟩:=a7p u;have n:aL 119 #[au ((⟨(u++32::v).toArray⟩:aO).extract 0 u.length),au ⟨#[32,62]⟩] w λe w'=>e=ay (aH #[bV ((JH u).getD u),.bool (JH u).isSome])/\w'=w:=by
   rw[Np,<- l,<- m];exact Tryz.strings_CutSuffix ⟨u.toArray⟩ ⟨#[32,62]⟩ w (by rw[gY];omega)
  clear l m;obtain⟨o,H⟩:∃o:Nat,(u.length:Int)+1=o:=⟨u.length+1,aa⟩;have z:(o:Int)<=((⟨(u++32::v).toArray⟩:aO).size:Int):=by rw[gY,c];omega
  have f:(⟨(u++32::v).toArray⟩:aO).extract o (u++32::v).length=⟨v.toArray⟩:=by
   rw[show o=u.length+1 from by omega];exact Xo u v 32 _ rfl
  have g:=Np u (32::v);obtain⟨s,p⟩:∃s,u++32::v=s:=⟨_,rfl⟩;rw[p] at j n D z f g⊢;have q:=aF f;have A:=aF g;clear p hs c f g;cases B:JH u with
  |some x=>
   rw[B] at h n;cases h;go_enter func160,ntmps160;go_upto_region 6 with(first|(go_at_call 225;refine j.mono ?_;rintro e y ⟨rfl,h⟩;rw[h];clear h)|(go_at_call 119;refine n.mono ?_;rintro e y ⟨rfl,h⟩;rw[h];clear h));go_region;go_wp2_with fail;have r:=a2K (aW w.heap.size w);obtain⟨t,i⟩:∃t,w.drew=t:=⟨_,rfl⟩;rw[i] at r⊢;rw[q.out];refine bg (v:=aH #[bV a,au ⟨#[32,62,32]⟩,bV b]) (by simp[results,results160,go_sem]) rfl ⟨rfl,r⟩
  |none=>
   rw[B] at h n;cases h;go_enter func160,ntmps160;go_upto_region 7 with(first|(go_at_call 225;refine j.mono ?_;rintro e y ⟨rfl,h⟩;rw[h];clear h)|(go_at_call 119;refine n.mono ?_;rintro e y ⟨rfl,h⟩;rw[h];clear h));go_region;go_wp2_with fail;have r:=a2K (aW w.heap.size w);obtain⟨t,i⟩:∃t,w.drew=t:=⟨_,rfl⟩;rw[i] at r⊢;rw[q.out,A.out];refine bg (v:=aH #[bV a,au ⟨#[32]⟩,bV b]) (by simp[results,results160,go_sem]) rfl ⟨rfl,r⟩
set_option maxRecDepth 100000
attribute [local go_sem] Oper.semAt_some
def QG:ax->Nat
 |au s=>s.size
 |_=>0
theorem Cv (s:Bs):QG (bV s)=s.length:=gY s
theorem wZ {A C:ai}(h:aD A C):A.grownBy C none:=⟨h.os,h.tape,h.output,h.size,λk a _=>h.block k a⟩
def wm (B:Nat)(A C:ai):Prop:=C.heap[B]? =A.heap[B]?
theorem wm.trans {B:Nat}{X Y Z:ai}(h:wm B X Y)(k:wm B Y Z):wm B X Z:=Eq.trans k h
theorem wm.put {B:Nat}{w:ai}(b:B<w.heap.size)(W:ai)(l:Nat)(o a:Obj)(c:w.heap.size<=l)(_:W.heap[l]? =some o)(_:o.isCells=false)(_:o.isWalk=false):wm B W (W.putObj l a):=nZ aa
theorem wm.of_below {B:Nat}{A C:ai}(h:aD A C)(a:B<A.heap.size):wm B A C:=h.block B a
theorem Ea (s:Bs)(w:ai):aL 98 #[bV s] w λe w'=>e=ay (.func (.func 159) #[] #[aK w.heap.size])/\w'=w.alloc (ak #[bV s] 9):=by
 go_enter func98,ntmps98;go_wp2;go_ret;exact⟨rfl,rfl⟩
abbrev StB:={x:Bs//x.length<=1000000}
abbrev Lr (l:List StB):List Bs:=l.map Subtype.val
theorem Ls (s:Bs)(hs:s.length<=1000000)(n:Nat)(B:Nat)(w0:ai)(Z:w0.heap[B]? =some (ak #[bV s] 9)):
  SeqStopsK Fence.wide n prog 159 #[aK B] (λx:StB=>#[bV x.1]) (wm B) (λxs=>Lr xs=jG s) (λp=>Lr p<+:jG s) (jG s).length w0:=by
 intro l J Jx W hW hJ a6 hY h0;have y:B<w0.heap.size:=(eY.1 Z).1;have z:W.heap[B]? =some (ak #[bV s] 9):=(hW.block B y).trans Z;have c0:W.cell? (aJ B 0)=some (bV s):=by simp[World.cell?,z]
 have D:∀p A C,J p A->aD A C->J p C:=λp A C h hb=>hJ p A C none h (wZ hb) (λr e=>by cases e);obtain⟨a,k,b,hc⟩:∃a k b,vQ s=(a,k,b):=⟨_,_,_,rfl⟩;have O:=Nq s a b k hc hs W;refine callsIn_of_wp func159 rfl trivial ?_ rfl;simp only[ntmps159,jw,eZ,iT,Nat.reduceAdd,Nat.reduceSub,jV,jU,jX,jW,gK,gH]
 gi_wp2_with (refine⟨trivial,(λh=>by cases h),?_⟩;gi_at_call 160;refine(dM.2 O).mono ?_;rintro e w1 ⟨rfl,E⟩)
 gi_loopw [3,4,5] (λP Q y5 wr=>∃(pre:List StB) (t a:Bs) (k:Lk) (b:Bs),vQ t=(a,k,b)/\t.length<=1000000/\Lr pre++jG t=jG s/\P=bV a/\Q=bV k.bs/\y5=bV b/\J pre wr/\wm B W wr) (λP Q _ _=>2*QG P+(if QG Q=0 then 0 else 1))
 case atStart=>exact⟨[],s,a,k,b,hc,hs,rfl,rfl,rfl,rfl,D _ _ _ h0 E,E.block B (fK y hW.size)⟩
 case round=>
  obtain⟨pre,t,a,k,b,d,R,f,rfl,rfl,rfl,S,F⟩:=hrel;have T:pre.length<(jG s).length:=by
   rw[<- f,dO,dP];have:0<(jG t).length:=by
    by_cases j:k=.no
    .subst j;rw[OH d];simp
    .rw[FQ d j];simp
   omega
  have H:b.length<=1000000:=bO (Ky d) R;obtain⟨fn,a4,N,a5,hy,hR⟩:=hY pre ⟨b,H⟩ wr S T;by_cases j:k=.no
  .subst j;have g:=OH d;rw[g] at f;have I:((⟨Lk.no.bs.toArray⟩:aO).toList==[])=true:=by rw[j5];rfl
   have K:=aF f;clear f g d
   gi_wp2
   refine⟨(λh=>by cases h),hR.mono ?_⟩;rintro e U (⟨rfl,q,u⟩|⟨rfl,i⟩)
   .gi_wp2
    go_end0
    exact⟨⟨_,rfl⟩,.inl ⟨_,by rw[<- K.out];simp,q⟩⟩
   .gi_wp2
    go_end0
    exact⟨⟨_,rfl⟩,.inr ⟨_,by rw[<- K.out];simp,i⟩⟩
  .have g:=FQ d j;have a7:=tu d j;rw[g] at f;have I:List.isEmpty k.bs=false:=by
    cases k with
    |no=>exact absurd rfl j
    |right=>rfl
    |below=>rfl
   have v:QG (bV k.bs)≠0:=by
    cases k with
    |no=>exact absurd rfl j
    |right=>decide
    |below=>decide
   obtain⟨w,o,L,c⟩:∃w o L,vQ a=(w,o,L):=⟨_,_,_,rfl⟩;have X:Hid (∀V,aL 160 #[bV a] V λe w'=>e=ay (aH #[bV w,bV o.bs,bV L])/\aD V w'):=λV=>Nq a w L o c aa V;have K:=aF f;obtain⟨kb,Y⟩:∃kb:Bs,k.bs=kb:=⟨_,rfl⟩;rw[Y] at I v⊢;clear f g j
   gi_wp2
   refine⟨(λh=>by cases h),hR.mono ?_⟩;rintro e U (⟨rfl,q,u⟩|⟨rfl,i⟩)
   .have O:=X.out U
    gi_wp2_with (refine⟨trivial,(λh=>by cases h),?_⟩;gi_at_call 160;refine(dM.2 O).mono ?_;rintro e w4 ⟨rfl,M⟩)
    go_roundw
    case rel=>exact⟨pre++[⟨b,H⟩],a,w,o,L,c,aa,by rw[<- K.out];simp,rfl,rfl,rfl,D _ _ _ q M,(F.trans u).trans (M.block B (eY.1 (Eq.trans (show U.heap[B]? =W.heap[B]? from F.trans u) z)).1)⟩
    case measure=>
     by_cases m:o=.no
     .have h1:w=[]:=by
       unfold vQ at c;split at c
       .cases c;rfl
       .split at c<;>cases c<;>exact absurd m aI
      subst m h1;rw[aG v];simp[QG,Lk.bs,ByteArray.size]
     .have h1:=tu c m;have h2:QG (bV o.bs)≠0:=by
       cases o with
       |no=>exact absurd rfl m
       |right=>decide
       |below=>decide
      rw[aG v,aG h2,Cv,Cv];omega
   .gi_wp2
    go_end0
    exact⟨⟨_,rfl⟩,.inr ⟨_,by rw[<- K.out];exact⟨jG a,aI⟩,i⟩⟩
