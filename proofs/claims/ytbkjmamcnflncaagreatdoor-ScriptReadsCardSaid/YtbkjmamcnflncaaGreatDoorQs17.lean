import Derived.Test.YtbkjmamcnflncaaGreatDoorQs16
namespace Go.Proofs.YtbkjmamcnflncaaGreatDoor
open Go.Proofs.Tryz
set_option maxHeartbeats 8000000
section
theorem Dg (s:aM)(a:Nat)(h:a<s.size)(g:128<=(s[a]'h).toNat):∀k,1<=k->k<(Utf8.decode s a).2->a+k<s.size/\128<=(s.get! (a+k)).toNat:=by
 have d:¬(s[a]'h).toNat<128:=aa;intro k e b;have i:(Utf8.decode s a).2<=4:=by
  simp only[Utf8.decode];grind
 simp only[Utf8.decode,get_at s a h,d,if_false] at b;have f:∀k,(decide (a+k<s.size) && ((s.get! (a+k)).toNat/64==2))=true->a+k<s.size/\128<=(s.get! (a+k)).toNat:=by grind
 split at b
 .rename_i c;grind
 .split at b
  .rename_i c;rw[iW,iW] at c;have:k=1\/k=2:=by split at b<;>simp only at b<;>omega
   grind
  .split at b
   .rename_i c;rw[iW,iW,iW] at c;have:k=1\/k=2\/k=3:=by split at b<;>simp only at b<;>omega
    grind
   .omega
theorem Q6 (s:aM)(a:Nat)(h:a<s.size):a+(Utf8.decode s a).2<=s.size:=by
 by_cases b:128<=(s[a]'h).toNat
 .have d:=(decode_high s a h b).2;by_cases e:(Utf8.decode s a).2=1
  .omega
  .have:=(Dg s a h b ((Utf8.decode s a).2-1) aa aa).1;omega
 .have c:(s[a]'h).toNat<128:=aa;simp only[Utf8.decode,get_at s a h,c,if_true];omega
theorem Q7 (r:Int)(h:128<=r):2<=(Utf8.encode r).size/\(Utf8.encode r).size<=4/\∀x∈(Utf8.encode r).data.toList,128<=x.toNat:=by
 unfold Utf8.encode;simp only;generalize hc:(if Utf8.valid r=true then r.toNat else Utf8.runeError)=c;have f:128<=c:=by
  rw[<- hc];split
  .omega
  .decide
 have g:c<=1114111:=by
  rw[<- hc];split
  .rename_i a;unfold Utf8.valid at a;grind
  .decide
 have b:∀n:Nat,128<=n->n<256->128<=(UInt8.ofNat n).toNat:=λn d e=>by
  rw[UInt8.toNat_ofNat',Nat.mod_eq_of_lt (by simpa using e)];exact d
 rw[if_neg aa];split
 .refine⟨by simp[ByteArray.size],by simp[ByteArray.size],?_⟩;grind
 .split
  .refine⟨by simp[ByteArray.size],by simp[ByteArray.size],?_⟩;grind
  .refine⟨by simp[ByteArray.size],by simp[ByteArray.size],?_⟩;grind
end
section
open Go.RowKit Go.Shelf
set_option maxRecDepth 20000
theorem Jj (w:ah):aJ 286 #[ak ⟨#[35,46,91]⟩,.int .i32 65533] w λe w'=>e=ax (ag (-1))/\aD w w':=by
 go_enter func286,ntmps286;go_wp2_with fail
 go_loopg [5,6] 3 (λg _ _ d=>∃i:Nat,i+g=3/\d=w.iter ⟨#[35,46,91]⟩ i)
 case atStart=>exact⟨0,aa,rfl⟩
 case round=>
  obtain⟨i,f,rfl⟩:=hrel;cases gk with
  |zero=>
   obtain rfl:i=3:=aa;have a:=run_next_end (P:=prog) w ⟨#[35,46,91]⟩ 3;go_wp2;go_ret;exact⟨rfl,(aQ _ _).alloc ay _⟩
  |succ g=>
   have b:i<(⟨#[35,46,91]⟩:aM).size:=by
    show i<3;omega
   have a:=λh=>run_next_ascii (P:=prog) w ⟨#[35,46,91]⟩ i h b (by
    have:i=0\/i=1\/i=2:=aa;rcases this with rfl|rfl|rfl
    .exact(by decide:(35:UInt8).toNat<128)
    .exact(by decide:(46:UInt8).toNat<128)
    .exact(by decide:(91:UInt8).toNat<128))
   obtain⟨x,c⟩:∃x:UInt8,(⟨#[35,46,91]⟩:aM)[i]'b=x:=⟨_,rfl⟩;have j:((x.toNat:Int)==65533)=false:=by
    rw[dL];have:=x.toNat_lt;omega
   rw[c] at a;clear c;go_wp2
   go_roundg g
   case measure=>omega
   case rel=>exact⟨i+1,aa,rfl⟩
theorem a6z (x c:UInt8)(h:128<=x.toNat)(hc:c.toNat<128):((c.toNat:Int) !=(x.toNat:Int))=true:=by grind
theorem a6A (l:List UInt8)(x:UInt8)(h:128<=x.toNat)(d:∀c∈l,c.toNat<128):Lib.indexByte l x= -1:=by
 have a:=Lib.contains_iff_indexByte l x;have b:l.contains x=false:=by grind
 rw[b] at a;have e:=of_decide_eq_false a.symm;have f:=Lib.indexByte_ge l x;omega
theorem Jk (S:aM)(hS:∀c∈S.data.toList,c.toNat<128)(r:Int)(q:128<=r)(he:r≠65533)(w:ah):aJ 286 #[ak S,.int .i32 r] w λe w'=>e=ax (ag (-1))/\aD w w':=by
 have s:(r==65533)=false:=by rw[dL];exact he
 have b:=Tryz.utf8_ValidRune r w;have K:¬r<128:=aa;have M:0<=r:=aa;cases n:Lib.validRune r with
 |false=>
  rw[n] at b;go_enter func286,ntmps286;go_wp2_with(go_at_call 334;refine b.mono ?_;rintro e t ⟨rfl,h⟩;rw[h];clear h);go_ret;exact⟨rfl,aQ _ _⟩
 |true=>
  rw[n] at b;obtain⟨u,v,i⟩:=Q7 r q;obtain⟨E,hE⟩:∃E,Utf8.encode r=E:=⟨_,rfl⟩;rw[hE] at u v i;have o:=aA hE;clear hE;go_enter func286,ntmps286;go_wp2_with(go_at_call 334;refine b.mono ?_;rintro e t ⟨rfl,h⟩;rw[h];clear h)
  go_step3
  go_upto_region 2 with fail;rw[o.out];obtain⟨L,N⟩:∃L:Nat,(E.size:Int)-1=L:=⟨E.size-1,aa⟩;have j:L<E.size:=aa;have z:(L:Int)<(E.size:Int):=aa;obtain⟨x,A⟩:∃x:UInt8,E[L]'j=x:=⟨_,rfl⟩;have d:128<=x.toNat:=by
   refine i x ?_;rw[<- A];simp[ByteArray.getElem_eq_getElem_data]
  clear i o b;go_wp2_with fail
  go_loopw [9,10] (λB k wr=>B=ag (L:Nat)/\k=ag 0/\wr=w) (λ_ _ _=>0)
  case atStart=>exact⟨rfl,rfl,rfl⟩
  case round=>
   obtain⟨rfl,rfl,f⟩:=hrel;rw[f];clear f;by_cases l:L<S.size
   .have g:(L:Int)<(S.size:Int):=aa;obtain⟨a,C⟩:∃a:Nat,(L:Int)+1=a:=⟨L+1,aa⟩;have D:(a:Int)<=(S.size:Int):=aa;obtain⟨y,F⟩:∃y:UInt8,S[L]'l=y:=⟨_,rfl⟩;have m:y.toNat<128:=by
     refine hS y ?_;rw[<- F];simp[ByteArray.getElem_eq_getElem_data]
    have H:=a6z x y d m;have I:∀V,aJ 200 #[ak (S.extract a S.size),.int .u8 x.toNat] V λe w'=>e=ax (ag (-1))/\w'=V:=λV=>by
     have h:=Tryz.strings_IndexByte (S.extract a S.size) x.toNat V;rw[show((x.toNat:Int)).toNat.toUInt8=x from by simp,a6A _ x d (by
      intro c p;refine hS c ?_;simp only[ByteArray.data_extract,Array.toList_extract] at p;exact List.mem_of_mem_drop (List.mem_of_mem_take p))] at h
     exact h
    have J:IntKind.i64.wrap (a:Int)=(a:Int):=IntWalk.i64_in _ aa;go_wp2_with fail
    go_step3
    go_upto_region 6 with fail;go_region;go_upto_region 7 with fail
    go_region_with ((go_at_call 200;refine(I _).mono ?_;rintro e O ⟨rfl,h⟩;rw[h];clear h))
    go_wp2_with fail;rw[Exit.noGoto_ret];go_wp2_with fail;rw[Exit.noGoto_ret];go_wp2_with fail;go_ret;exact⟨rfl,(aQ _ w).drew.drew⟩
   .have g:¬(L:Int)<(S.size:Int):=aa;go_wp2_with fail;go_ret;exact⟨rfl,aQ _ _⟩
theorem Gt (r:Int)(d:128<=r)(w:ah):aJ 286 #[ak ⟨#[35,46,91]⟩,.int .i32 r] w λe w'=>e=ax (ag (-1))/\aD w w':=by
 by_cases a:r=65533
 .subst a;exact Jj w
 .exact Jk ⟨#[35,46,91]⟩ (by intro c b;simp at b;rcases b with rfl|rfl|rfl<;>decide) r d a w
end
section
open Go.RowKit Go.Shelf
set_option maxRecDepth 1000000
theorem uq {w v:ah}(h:aD w v)(k:Nat)(b:w.heap.size<=k)(S:aM)(p:Nat):aD w (v.iterAt k S p):=
 ⟨h.os,h.tape,h.output,by rw[Lib.iterAt_size];exact h.size,λj a=>(Lib.iterAt_other v k j S p aa).trans (h.block j a)⟩
theorem U6 {l:Bs}{i d:Nat}(h:Lib.NoAny l [35,46,91] i)(g:∀k x,i<=k->k<i+d->l[k]? =some x->128<=x.toNat):Lib.NoAny l [35,46,91] (i+d):=λj b m f=>by
 by_cases a:j<i
 .exact h j b a f
 .have n:=g j b aa m f;rw[any_mk];unfold XI;have e:∀c:UInt8,c.toNat<128->(b==c)=false:=λc o=>by grind
  rw[e 35 aC,e 46 aC,e 91 aC];rfl
theorem Gu (s:aM)(w:ah)(h8:s.size<=8):
  aJ 227 #[ak s,ak ⟨#[35,46,91]⟩] w λe w'=>e=ax (ag (Lib.indexAny s.data.toList [35,46,91]))/\aD w w':=by
 have L:decide ((8:Int)<(s.size:Int))=false:=iH aa;go_enter func227,ntmps227;go_wp2_with(go_at_call 287;refine(Tryz.strings_shouldUseASCIISet _ _).mono ?_;rintro e w' ⟨rfl,hw⟩;rw[hw,L]);obtain⟨l,M⟩:∃l,w.heap.size=l:=⟨_,rfl⟩;have A:(w.alloc (.stringIter s 0)).heap[w.heap.size]? =some (.stringIter s 0):=by
  show(w.heap.push (.stringIter s 0))[w.heap.size]? =_;exact Array.getElem?_push_size
 have N:aD w (w.alloc (.stringIter s 0)):=(aQ _ w).alloc ay _;rw[M] at A⊢
 go_loopg [9,10] s.size (λg _ _ W=>∃i:Nat,i+g=s.size/\W.heap[l]? =some (.stringIter s i)/\aD w W/\Lib.NoAny s.data.toList [35,46,91] i)
 case atStart=>exact⟨0,aa,A,N,Lib.NoAny.zero _ _⟩
 case round=>
  obtain⟨i,a4,m,t,B⟩:=hrel;have J:=aA B;clear B;cases gk with
  |zero=>
   obtain rfl:i=s.size:=aa;have f:=λC=>Lib.run_next_end_at (P:=prog) wr l s s.size C m aa;go_wp2;go_ret;exact⟨by rw[Lib.indexAny_none (by rw[<- Lib.size_eq];exact J.out)];rfl,t⟩
  |succ g=>
   have u:i<s.size:=aa;obtain⟨x,v⟩:∃x:UInt8,s[i]'u=x:=⟨_,rfl⟩;have q:s.data.toList[i]? =some x:=by rw[<- v];exact Lib.data_getElem? s i u
   have X:=aA q;by_cases D:x.toNat<128
   .have f:=λC=>Lib.run_next_ascii_at (P:=prog) wr l s i C m u (by rw[v];exact D);rw[v] at f;have a:=Lib.iterAt_heap wr l s i (i+1) m;have j:=uq t l aa s (i+1);obtain⟨U,E⟩:∃U,wr.iterAt l s (i+1)=U:=⟨_,rfl⟩;rw[E] at a j f;have y:=Tryz.strings_IndexRune_ascii ⟨#[35,46,91]⟩ (x.toNat:Int) U aa aa;have n:((x.toNat:Int)).toNat.toUInt8=x:=aG;rw[n] at y;have b:=Lib.contains_iff_indexByte [35,46,91] x;clear v q E n;cases r:([35,46,91]:List UInt8).contains x with
    |false=>
     rw[r] at b;have O:¬((0:Int)<=Lib.indexByte [35,46,91] x):=of_decide_eq_false b.symm;have o:aJ 286 #[ak ⟨#[35,46,91]⟩,.int .i32 x.toNat] U λe w'=>e=ax (ag (Lib.indexByte [35,46,91] x))/\w'=U:=y;obtain⟨F,p⟩:∃F,Lib.indexByte [35,46,91] x=F:=⟨_,rfl⟩;rw[p] at o O;clear b y p;go_wp2_with(go_at_call 286;refine o.mono ?_;rintro e Y ⟨rfl,h⟩;rw[h];clear h)
     go_roundg g
     case measure=>omega
     case rel=>exact⟨i+1,aa,a,j,J.out.succ X.out r⟩
    |true=>
     rw[r] at b;have Q:(0:Int)<=Lib.indexByte [35,46,91] x:=of_decide_eq_true b.symm;have o:aJ 286 #[ak ⟨#[35,46,91]⟩,.int .i32 x.toNat] U λe w'=>e=ax (ag (Lib.indexByte [35,46,91] x))/\w'=U:=y;obtain⟨F,p⟩:∃F,Lib.indexByte [35,46,91] x=F:=⟨_,rfl⟩;rw[p] at o Q;clear b y p;go_wp2_with(go_at_call 286;refine o.mono ?_;rintro e Y ⟨rfl,h⟩;rw[h];clear h);go_ret;exact⟨by rw[Lib.indexAny_hit J.out X.out r];rfl,j⟩
   .have f:=λC=>Lib.run_next_any_at (P:=prog) wr l s i C m u;have H:=decode_high s i u (by rw[v];omega);have I:=Dg s i u (by rw[v];omega);have R:=Q6 s i u;have z:Lib.NoAny s.data.toList [35,46,91] (i+(Utf8.decode s i).2):=U6 J.out (λk c h1 h2 S=>by
     by_cases hk:k=i
     .rw[hk,q] at S;cases S;omega
     .obtain⟨d,rfl⟩:∃d,k=i+d:=⟨k-i,aa⟩;have K:=I d aa aa;have Z:=Lib.data_getElem? s (i+d) K.1;rw[S] at Z;rw[fF Z];have h6:=get_at s (i+d) K.1;rw[Nat.add_zero] at h6;rw[h6] at K;exact K.2)
    obtain⟨d,hd⟩:∃d,(Utf8.decode s i).2=d:=⟨_,rfl⟩;obtain⟨T,hr⟩:∃T,(Utf8.decode s i).1=T:=⟨_,rfl⟩;rw[hd] at f H R z;rw[hr] at f H;have V:=aA z;have a:=Lib.iterAt_heap wr l s i (i+d) m;have j:=uq t l aa s (i+d);obtain⟨U,E⟩:∃U,wr.iterAt l s (i+d)=U:=⟨_,rfl⟩;rw[E] at a j f;have y:=Gt (T:Int) aa U;clear v q E hd hr I z;go_wp2_with(go_at_call 286;refine y.mono ?_;rintro e Y ⟨rfl,b2⟩)
    go_roundg (s.size-(i+d))
    case measure=>omega
    case rel=>exact⟨i+d,aa,(b2.block l (dZ.1 a).1).trans a,j.trans (b2.mono j.size),V.out⟩
theorem aaS:∀w:ah,(zeroValue 368).run prog w=.ok (.agg (Array.replicate 256 (.bool false))) w:=λw=>az
theorem Mt (s:Bs)(hs:s.length<=1000000)(w:ah):
  aJ 227 #[ak ⟨s.toArray⟩,ak ⟨#[35,46,91]⟩] w λe w'=>e=ax (ag (Lib.indexAny s [35,46,91]))/\aD w w':=by
 by_cases c:s.length<=8
 .exact Gu ⟨s.toArray⟩ w (by rw[gL];exact c)
 .refine(Tryz.strings_IndexAny_long aaS ⟨s.toArray⟩ ⟨#[35,46,91]⟩ w aC (by rw[gL];omega) (by rw[gL];omega) aC (λj b d=>?_)).mono λe w' h=>⟨h.1,?_⟩
  .have a:=gN d;simp at a;rcases a with rfl|rfl|rfl<;>decide
  .rw[h.2];exact((aQ _ _).alloc ay _).alloc aG _
end
section
open Go.RowKit Go.Shelf
set_option maxRecDepth 100000
attribute [local go_sem] Oper.semAt_some
theorem wz (s:Bs)(w:ah):aJ 161 #[bV s] w λe w'=>e=ax (.func (.func 226) #[] #[aI w.heap.size])/\w'=w.alloc (ai #[bV s] 9):=by
 go_enter func161,ntmps161;go_wp2;go_ret;exact⟨rfl,rfl⟩
abbrev PtB:={x:UInt8×Bs//x.2.length<=1000000}
abbrev yO (l:List PtB):List (UInt8×Bs):=l.map Subtype.val
abbrev ptV (x:PtB):Array au:=#[.int .u8 x.1.1.toNat,bV x.1.2]
theorem BH (s:Bs)(hs:s.length<=1000000)(n:Nat)(B:Nat)(w0:ah)(hB:w0.heap[B]? =some (ai #[bV s] 9)):
  SeqStopsK Fence.wide n prog 226 #[aI B] ptV (vo B) (λxs=>yO xs=pts 0 s) (λp=>yO p<+:pts 0 s) (pts 0 s).length w0:=by
 intro l J Jx W hW hJ a5 hY h0;have T:B<w0.heap.size:=(dZ.1 hB).1;have H:W.heap[B]? =some (ai #[bV s] 9):=(hW.block B T).trans hB;have c0:W.cell? (aH B 0)=some (bV s):=by simp[World.cell?,H]
 have j:∀p A C,J p A->aD A C->J p C:=λp A C h hb=>hJ p A C none h (wu hb) (λr e=>by cases e);refine callsIn_of_wp func226 rfl trivial ?_ rfl;simp only[ntmps226,ji,eP,iO,Nat.reduceAdd,Nat.reduceSub,jM,jL,jO,jN,gF,fV]
 gi_wp2
 gi_region
 gi_wp2
 gi_loopw [3,4] (λy3 U wr=>∃(pre:List PtB) (k:UInt8) (t:Bs),t.length<=1000000/\yO pre++pts k t=pts 0 s/\y3=.int .u8 k.toNat/\U=bV t/\J pre wr/\vo B W wr) (λ_ U _=>Q5 U)
 case atStart=>exact⟨[],0,s,hs,rfl,rfl,rfl,j _ _ _ h0 (aQ _ _).drew,rfl⟩
 case round=>
  obtain⟨pre,k,t,y,c,rfl,rfl,I,K⟩:=hrel;have S:=Mt t y wr;cases z:iB t with
  |none=>
   rw[any_none z] at S;rw[a0A z] at c;have D:pre.length<(pts 0 s).length:=by
    rw[<- c,dJ,eP,dF];omega
   have b:(qm k t).length<=1000000:=bu (O0 k t) y;have o:=aA c;have d:∀V,aJ 228 #[.int .u8 k.toNat,bV t] V λe X=>e=ax (bV (qm k t))/\X=V:=λV=>Gs k t y V;have f:∀g,J pre g->YieldAt Fence.wide (n-1) prog l #[.int .u8 k.toNat,bV (qm k t)] g λe E=>(e=ax (.bool true)/\J (pre++[⟨(k,qm k t),b⟩]) E/\vo B g E)\/(e=ax (.bool false)/\Jx (pre++[⟨(k,qm k t),b⟩]) E):=λg h=>hY pre ⟨(k,qm k t),b⟩ g h D;revert b o d f;generalize qm k t=nm;intro b o d f;clear c z
   gi_wp2_with (first|(refine⟨trivial,(λh=>by cases h),?_⟩;gi_at_call 227;refine(callsIn_wide.2 S).mono ?_;rintro e Y ⟨rfl,q⟩)|(refine⟨trivial,(λh=>by cases h),?_⟩;gi_at_call 228;refine(callsIn_wide.2 (d _)).mono ?_;rintro e w2 ⟨rfl,h⟩;rw[h];clear h;obtain⟨fn,L,u,M,hy,Z⟩:=f Y (j _ _ _ I q)))
   refine⟨(λh=>by cases h),Z.mono ?_⟩;rintro e W3 (⟨rfl,F,N⟩|⟨rfl,i⟩)
   .gi_wp2
    refine bodyPost_ret (results_none rfl _ _ _) rfl ?_;exact⟨⟨_,rfl⟩,.inl ⟨_,by rw[<- o.out];simp,F⟩⟩
   .gi_wp2
    refine bodyPost_ret (results_none rfl _ _ _) rfl ?_;exact⟨⟨_,rfl⟩,.inr ⟨_,by rw[<- o.out];simp,i⟩⟩
  |some x=>
   obtain⟨a,m,r⟩:=x;rw[any_some z] at S;rw[NZ z] at c;have D:pre.length<(pts 0 s).length:=by
    rw[<- c,dJ,eP,dF];omega
   obtain⟨O, -, -⟩:=tH z;have P:t.length=a.length+(r.length+1):=by rw[O];simp
   have Q:a.length<=1000000:=aa;have v:(⟨t.toArray⟩:aM).size=t.length:=gL t;have a6:(a.length:Int)<=((⟨t.toArray⟩:aM).size:Int):=by rw[v];omega
   have a7:(a.length:Int)<((⟨t.toArray⟩:aM).size:Int):=by rw[v];omega
   have a4:a.length<(⟨t.toArray⟩:aM).size:=by rw[v];omega
   have a8:(⟨t.toArray⟩:aM)[a.length]'a4=m:=by
    subst O;simp[ByteArray.getElem_eq_getElem_data]
   have a9:¬(a.length:Int)<0:=aa;obtain⟨w,b0⟩:∃w:Nat,(a.length:Int)+1=w:=⟨a.length+1,aa⟩;have b1:(a.length:Int)<(t.length:Int):=aa;have b2:(w:Int)<=(t.length:Int):=aa;have b3:IntKind.i64.wrap (w:Int)=(w:Int):=IntWalk.i64_in _ aa;have R:Hid ((⟨t.toArray⟩:aM).extract w t.length=⟨r.toArray⟩):=(by
    rw[show w=a.length+1 from by omega,O];exact Wu a r m _ rfl:(⟨t.toArray⟩:aM).extract w t.length=⟨r.toArray⟩)
   have d:∀V,aJ 228 #[.int .u8 k.toNat,ak ((⟨t.toArray⟩:aM).extract 0 a.length)] V λe X=>e=ax (bV (qm k a))/\X=V:=λV=>by
    rw[show(⟨t.toArray⟩:aM).extract 0 a.length=⟨a.toArray⟩ from by rw[O];exact Mr a (m::r)];exact Gs k a Q V
   have b:(qm k a).length<=1000000:=bu (O0 k a) Q;have f:∀g,J pre g->YieldAt Fence.wide (n-1) prog l #[.int .u8 k.toNat,bV (qm k a)] g λe E=>(e=ax (.bool true)/\J (pre++[⟨(k,qm k a),b⟩]) E/\vo B g E)\/(e=ax (.bool false)/\Jx (pre++[⟨(k,qm k a),b⟩]) E):=λg h=>hY pre ⟨(k,qm k a),b⟩ g h D;have o:=aA c;have Q8:Hid (r.length<t.length):=(by omega:r.length<t.length);revert b o d f;generalize qm k a=nm;intro d b f o;clear c z O P v
   gi_wp2_with (first|(refine⟨trivial,(λh=>by cases h),?_⟩;gi_at_call 227;refine(callsIn_wide.2 S).mono ?_;rintro e Y ⟨rfl,q⟩)|(refine⟨trivial,(λh=>by cases h),?_⟩;gi_at_call 228;refine(callsIn_wide.2 (d _)).mono ?_;rintro e w2 ⟨rfl,h⟩;rw[h];clear h;obtain⟨fn,L,u,M,hy,Z⟩:=f Y (j _ _ _ I q)))
   refine⟨(λh=>by cases h),Z.mono ?_⟩;rintro e W3 (⟨rfl,F,N⟩|⟨rfl,i⟩)
   .gi_wp2
    gi_region
    gi_wp2
    go_roundw
    case rel=>exact⟨pre++[⟨(k,nm),b⟩],m,r,by have:=Q8.out;omega,by rw[<- o.out];simp,by first|rfl|simp,by rw[R.out],j _ _ _ F (aQ _ _).drew,(K.trans (vo.of_below q (dZ.1 (Eq.trans (show wr.heap[B]? =W.heap[B]? from K) H)).1)).trans N⟩
    case measure=>
     rw[R.out,BF,BF];exact Q8.out
   .gi_wp2
    refine bodyPost_ret (results_none rfl _ _ _) rfl ?_;exact⟨⟨_,rfl⟩,.inr ⟨_,by rw[<- o.out];exact⟨pts m r,aG⟩,i⟩⟩
end
section
open Go.RowKit Go.Shelf
set_option maxRecDepth 100000
attribute [local go_sem] Oper.semAt_some
def rD:List (UInt8×Bs)->Nat
 |[]=>0
 |x::l=>(if x.1=0 then 0 else 1)+rD l
theorem Gv (a b:List (UInt8×Bs)):rD (a++b)=rD a+rD b:=by
 induction a with
 |nil=>simp[rD]
 |cons x l c=>rw[fV,rD,rD,c];omega
theorem Wv:∀l:List (UInt8×Bs),rD l<=l.length
 |[]=>Nat.le_refl _
 |x::l=>by
  have:=Wv l;rw[rD,eP];split<;>omega
theorem Ex:∀(f:Nat) (k:UInt8) (s:Bs),s.length<=f->(pts k s).length<=s.length+1
 |f,k,s,c=>by
  cases b:iB s with
  |none=>rw[a0A b];simp
  |some x=>
   obtain⟨a,m,r⟩:=x;have d:=vC b;rw[NZ b,eP];have:=Ex (f-1) m r aa;omega
termination_by _ _ s=>s.length
def Mw (l:List (UInt8×Bs)):Prop:=∀rest,Cu 0 (l++rest)=Cu (rD l) rest
theorem Mw.nil:Mw []:=λ_=>rfl
theorem Mw.snoc {l:List (UInt8×Bs)}{x:UInt8×Bs}(h:Mw l)(a:(if x.1=0 then rD l else rD l+1)<=8)(b:SX x=true):Mw (l++[x]):=λrest=>by
 rw[kV,h,List.singleton_append,Cu,b,decide_eq_true a,Gv];simp only[Bool.true_and];congr 1;unfold rD rD;split<;>omega
theorem Mw.bad {l:List (UInt8×Bs)}{x:UInt8×Bs}(h:Mw l)(a:¬((if x.1=0 then rD l else rD l+1)<=8)\/SX x=false)(rest:List (UInt8×Bs)):Cu 0 (l++[x]++rest)=false:=by
 rw[kV,h,List.singleton_append,Cu];grind
theorem jB (W:ah)(a b c:Obj):(((W.alloc a).alloc b).alloc c).heap[W.heap.size]? =some a/\(((W.alloc a).alloc b).alloc c).heap[W.heap.size+1]? =some b/\(((W.alloc a).alloc b).alloc c).heap[W.heap.size+1+1]? =some c/\(((W.alloc a).alloc b).alloc c).heap.size=W.heap.size+3/\aD W (((W.alloc a).alloc b).alloc c):=by
 have e:(W.alloc a).heap.size=W.heap.size+1:=dK W a;have d:((W.alloc a).alloc b).heap.size=W.heap.size+1+1:=by rw[dK,e]
 have h:=eO W a;have f:=eO (W.alloc a) b;have g:=eO ((W.alloc a).alloc b) c;rw[e] at f;rw[d] at g;refine⟨(Below.heap_alloc _ _ _ (by rw[d];omega)).trans ((Below.heap_alloc _ _ _ (by rw[e];omega)).trans h),(Below.heap_alloc _ _ _ (by rw[d];omega)).trans f,g,by rw[dK,d],?_⟩;exact(((aQ W.heap.size W).alloc ay _).alloc (by rw[e];omega) _).alloc (by rw[d];omega) _
theorem jX {A C:ah}{a:Option Nat}{U k:Nat}{o:Obj}(h:A.heap[k]? =some o)(d:k<U)(b:A.grownBy C a)(c:∀r,a=some r->U<=r/\∃o:Obj,A.heap[r]? =some o/\o.isCells=false):C.heap[k]? =some o:=
 (b.block k (dZ.1 h).1 (λe=>by have:=(c k e.symm).1;omega)).trans h
theorem qW {V A C:ah}{a:Option Nat}{U:Nat}(h:aD V A)(f:V.heap.size<=U)(b:A.grownBy C a)(d:∀r,a=some r->U<=r/\∃o:Obj,A.heap[r]? =some o/\o.isCells=false):aD V C:=
 ⟨b.os.trans h.os,b.tape.trans h.tape,b.output.trans h.output,bu h.size b.size,λk c=>(b.block k (dP c h.size) (λe=>by have:=(d k e.symm).1;omega)).trans (h.block k c)⟩
theorem dB {w:ah}{b:Nat}{v:au}{t:TypeId}(h:w.heap[b]? =some (ai #[v] t)):w.cell? (aH b 0)=some v:=by simp[World.cell?,h]
theorem iU {w:ah}{b:Nat}{v:au}{t:TypeId}(h:w.heap[b]? =some (ai #[v] t)):w.frozen? ⟨b,0,none⟩=false:=by
 unfold World.frozen?;rw[h];simp
theorem jC {w:ah}{b:Nat}{v:au}{t:TypeId}(h:w.heap[b]? =some (ai #[v] t))(u:au):(w.setCell ⟨b,0,none⟩ u).heap[b]? =some (ai #[u] t):=by
 rw[heap_setCell_same w b 0 _ _ _ h];rfl
theorem YE (s:Bs)(hs:s.length<=1000000)(W:ah):CallsIn Fence.wide 9 prog 99 #[bV s] W λe w'=>e=ax (.bool (xQ s))/\aD W w':=by
 obtain⟨H,I,J,L,b0⟩:=jB W (ai #[.bool false] 4) (ai #[ag 0] 3) (ai #[bV s] 9);refine callsIn_of_wp_marks func99 rfl trivial ?_ rfl;simp only[ntmps99,ji,eP,iO,Nat.reduceAdd,Nat.reduceSub,jM,jL,jO,jN,gF,fV]
 gi_wp2_with (refine⟨trivial,?_⟩;gi_at_call 161;refine(callsIn_wide.2 (wz s _)).mono ?_;rintro e w1 ⟨rfl,g⟩;rw[g];clear g)
 obtain⟨U,hU⟩:∃U,(((W.alloc (ai #[.bool false] 4)).alloc (ai #[ag 0] 3)).alloc (ai #[bV s] 9))=U:=⟨_,rfl⟩;rw[hU] at b0 H I J L⊢;clear hU;refine wpIn_rangeFunc_ownF rfl aa (gf:=226) (lb:=#[.pointer (some ⟨W.heap.size+1+1,0,none⟩)]) rfl trivial (enters_of func226 az rfl)
  (encs:=ptV) (Kp:=vo (W.heap.size+1+1)) (S:=λxs=>yO xs=pts 0 s) (Sp:=λp=>yO p<+:pts 0 s) (N:=(pts 0 s).length) (w0:=U)
  (BH s hs _ _ U J) vo.trans (λX l o o' hl g h2 h3=>vo.put (w:=U) aa X l o o' hl g h2 h3) (aQ _ _) (λ_=>rfl)
  (λpre X=>X.heap[W.heap.size+1]? =some (ai #[ag (rD (yO pre):Nat)] 3)/\X.heap[W.heap.size]? =some (ai #[.bool false] 4)/\aD W X/\Mw (yO pre))
  (λc pre X=>c=.ret/\(∀rest,Cu 0 (yO pre++rest)=false)/\X.heap[W.heap.size]? =some (ai #[.bool false] 4)/\aD W X)
  (λpre A C Y hs B a=>⟨jX hs.1 aa B a,jX hs.2.1 aa B a,qW hs.2.2.1 aa B a,hs.2.2.2⟩)
  (λc pre A C Y hs B a=>⟨hs.1,hs.2.1,jX hs.2.2.1 aa B a,qW hs.2.2.2 aa B a⟩)
  ⟨I,H,b0,Mw.nil⟩
  (λx=>{tmps:=#[bV s,undef,aI W.heap.size,.pointer (some ⟨W.heap.size+1,0,none⟩),.int .u8 x.1.1.toNat,bV x.1.2,bV s,.func (.func 226) #[] #[.pointer (some ⟨W.heap.size+1+1,0,none⟩)],.int .u8 x.1.1.toNat,bV x.1.2,undef,undef,undef,undef,undef,undef,undef,undef,undef,undef,undef,undef,undef,undef],defers:=[]})
  ?assign ?body ?done ?stop
 case assign=>
  intro l x X K E
  gi_wp2
  exact E
 case body=>
  rintro l pre x X ⟨F,a,j,b⟩ a8;obtain⟨⟨k,M⟩,O⟩:=x;have c1:=dB F;have f1:=iU F;have c2:=dB a;have f2:=iU a;have Z:rD (yO pre)<=1000001:=by
   have g:=Wv (yO pre);have h2:=Ex s.length 0 s ay;rw[dF] at g;omega
  have d:yO (pre++[⟨(k,M),O⟩])=yO pre++[(k,M)]:=aG;have m:=λV=>U5 k M O V;have h0:((k.toNat:Int)==0)=(k==0):=Ad k 0;have P:((k.toNat:Int) !=0)= !(k==0):=by rw[bne,h0]
  obtain⟨c,n⟩:∃c,rD (yO pre)=c:=⟨_,rfl⟩;rw[n] at c1 F Z;have f:=aA n;clear n h0;have a4:¬W.heap.size=W.heap.size+1:=aa;by_cases q:k=0
  .have r:(k==0)=true:=by rw[q];rfl
   rw[r] at P;have HK:=aA q;clear q;by_cases h8:8<c
   .have t:8<(c:Int):=aa
    gi_wp2
    refine⟨trivial,?_⟩
    gi_wp2
    exact⟨gH _ _ _,rfl,λrest=>by rw[d];exact b.bad (.inl (by rw[if_pos HK.out,f.out];omega)) rest,jC a _,j.setCell ay _⟩
   .have t:¬8<(c:Int):=aa;cases i:SX (k,M) with
    |true=>
     rw[i] at m
     gi_wp2_with (refine⟨trivial,?_⟩;gi_at_call 162;refine(CallsIn.inRound l (callsIn_wide.2 (m _))).mono ?_;rintro e w2 ⟨rfl,h⟩;rw[h];clear h)
     exact⟨KeepsOthers.refl _,rfl,by rw[d,Gv,f.out];simp only[rD,if_pos HK.out];exact F,a,j,by rw[d];exact b.snoc (by rw[if_pos HK.out,f.out];omega) i⟩
    |false=>
     rw[i] at m
     gi_wp2_with (refine⟨trivial,?_⟩;gi_at_call 162;refine(CallsIn.inRound l (callsIn_wide.2 (m _))).mono ?_;rintro e w2 ⟨rfl,h⟩;rw[h];clear h)
     exact⟨gH _ _ _,rfl,λrest=>by rw[d];exact b.bad (.inr i) rest,jC a _,j.setCell ay _⟩
  .have r:(k==0)=false:=by rw[dL];exact q
   rw[r] at P;have a5:=jC F (ag ((c:Int)+1));have u:(X.setCell ⟨W.heap.size+1,0,none⟩ (ag ((c:Int)+1))).heap[W.heap.size]? =some (ai #[.bool false] 4):=(bY _ _ _ W.heap.size (λe=>a4 e)).trans a;have v:aD W (X.setCell ⟨W.heap.size+1,0,none⟩ (ag ((c:Int)+1))):=j.setCell fJ _;have a6:vo (W.heap.size+1+1) X (X.setCell ⟨W.heap.size+1,0,none⟩ (ag ((c:Int)+1))):=bY _ _ _ _ fJ;by_cases h8:8<c+1
   .have t:8<(c:Int)+1:=aa
    gi_wp2
    refine⟨trivial,?_⟩
    gi_wp2
    exact⟨(gH _ _ _).trans (gH _ _ _),rfl,λrest=>by rw[d];exact b.bad (.inl (by rw[if_neg q,f.out];omega)) rest,jC u _,v.setCell ay _⟩
   .have t:¬8<(c:Int)+1:=aa;cases i:SX (k,M) with
    |true=>
     rw[i] at m
     gi_wp2_with (refine⟨trivial,?_⟩;gi_at_call 162;refine(CallsIn.inRound l (callsIn_wide.2 (m _))).mono ?_;rintro e w2 ⟨rfl,h⟩;rw[h];clear h)
     exact⟨gH _ _ _,a6,by rw[d,Gv,f.out];simp only[rD,if_neg q];exact a5,u,v,by rw[d];exact b.snoc (by rw[if_neg q,f.out];omega) i⟩
    |false=>
     rw[i] at m
     gi_wp2_with (refine⟨trivial,?_⟩;gi_at_call 162;refine(CallsIn.inRound l (callsIn_wide.2 (m _))).mono ?_;rintro e w2 ⟨rfl,h⟩;rw[h];clear h)
     exact⟨(gH _ _ _).trans (gH _ _ _),rfl,λrest=>by rw[d];exact b.bad (.inr i) rest,jC u _,v.setCell ay _⟩
 case done=>
  rintro D xs X hD hS ⟨F,a,j,b⟩ E;have hv:xQ s= !s.isEmpty:=by
   have g:=b [];rw[hS,List.append_nil] at g;unfold xQ;rw[show uL s=pts 0 s from rfl,g];cases s<;>rfl
  have c2:=dB a;have f2:=iU a
  gi_wp2
  have Q:=(gH X ⟨W.heap.size,0,none⟩ (.bool !s.isEmpty)).same D _ E rfl;refine⟨aG,.inl ⟨_,_,rfl,run_takeDeferred Q,?_⟩⟩;have a7:=jC a (.bool !s.isEmpty);have y:=(nH (w:=X.setCell ⟨W.heap.size,0,none⟩ (.bool !s.isEmpty)) (o:=.deferred none) (show W.heap.size≠D by omega)).trans a7;have oc:=dB y;refine⟨.bool !s.isEmpty,?_,by rw[hv],(j.setCell ay _).trans (belowK_b (w:=W) ay _ D _ _ aa Q rfl rfl)⟩;simp[results,results99,go_sem,oc]
 case stop=>
  rintro D c pre X hD R ⟨rfl,T,a,j⟩ E;have hv:xQ s=false:=by
   obtain⟨rest,z⟩:=R;have g:=T rest;rw[z] at g;unfold xQ;rw[show uL s=pts 0 s from rfl,g];rfl
  gi_wp2
  refine⟨aG,.inl ⟨_,_,rfl,run_takeDeferred E,?_⟩⟩;have y:=(nH (w:=X) (o:=.deferred none) (show W.heap.size≠D by omega)).trans a;have oc:=dB y;refine⟨.bool false,?_,by rw[hv],j.trans (belowK_b (w:=W) ay X D _ _ aa E rfl rfl)⟩;simp[results,results99,go_sem,oc]
theorem U7 (s:Bs)(hs:s.length<=1000000)(W:ah):aJ 99 #[bV s] W λe w'=>e=ax (.bool (xQ s))/\aD W w':=callsIn_wide.1 (YE s hs W)
end
section
open Go.RowKit Go.Shelf
set_option maxRecDepth 100000
attribute [local go_sem] Oper.semAt_some
theorem Dh (W:ah)(a b c d:Obj):((((W.alloc a).alloc b).alloc c).alloc d).heap[W.heap.size]? =some a/\((((W.alloc a).alloc b).alloc c).alloc d).heap[W.heap.size+1]? =some b/\((((W.alloc a).alloc b).alloc c).alloc d).heap[W.heap.size+1+1]? =some c/\((((W.alloc a).alloc b).alloc c).alloc d).heap[W.heap.size+1+1+1]? =some d/\((((W.alloc a).alloc b).alloc c).alloc d).heap.size=W.heap.size+4/\aD W ((((W.alloc a).alloc b).alloc c).alloc d):=by
 obtain⟨f,g,h,i,j⟩:=jB (W.alloc a) b c d;have e:(W.alloc a).heap.size=W.heap.size+1:=dK W a;rw[e] at f g h i;have k:=eO W a;refine⟨(j.block _ (by rw[e];omega)).trans k,f,g,h,i,?_⟩;exact((aQ W.heap.size W).alloc ay _).trans (j.mono (by rw[e];omega))
theorem xm {A C:ah}(h:aD A C):KeepsOthers A C:=⟨h.size,λl _ a _=>(h.block l (dZ.1 a).1).trans a⟩
theorem gM {A C:ah}(h:aD A C){k:Nat}{o:Obj}(a:A.heap[k]? =some o):C.heap[k]? =some o:=(h.block k (dZ.1 a).1).trans a
def OkS (l:List Bs):Prop:=∀rest,Cv 0 (l++rest)=Cv l.length rest
theorem OkS.nil:OkS []:=λ_=>rfl
theorem OkS.snoc {l:List Bs}{x:Bs}(h:OkS l)(a:l.length+1<=5)(b:xQ x=true):OkS (l++[x]):=λrest=>by
 rw[kV,h,List.singleton_append,Cv,b,decide_eq_true a,dJ,List.length_singleton];grind
theorem OkS.bad {l:List Bs}{x:Bs}(h:OkS l)(a:¬l.length+1<=5\/xQ x=false)(rest:List Bs):Cv 0 (l++[x]++rest)=false:=by
 rw[kV,h,List.singleton_append,Cv];grind
theorem oV:∀(f:Nat) (s:Bs),(qZ f s).length<=f
 |0,_=>Nat.le_refl _
 |f+1,s=>by
  rw[qZ];obtain⟨a,k,b,c⟩:∃a k b,uS s=(a,k,b):=⟨_,_,_,rfl⟩;rw[c];cases k with
  |no=>simp
  |right=>have:=oV f a;simp only[eP];omega
  |below=>have:=oV f a;simp only[eP];omega
theorem Ww {W Z:ah}{er:au}(c:Z.heap[W.heap.size]? =some (ai #[ak ⟨#[]⟩] 105))(d:Z.heap[W.heap.size+1]? =some (ai #[aU] 25))(e:aD W Z):
  KeepsOthers Z ((Z.setCell ⟨W.heap.size,0,none⟩ (ak ⟨#[]⟩)).setCell ⟨W.heap.size+1,0,none⟩ er).drew/\((Z.setCell ⟨W.heap.size,0,none⟩ (ak ⟨#[]⟩)).setCell ⟨W.heap.size+1,0,none⟩ er).drew.heap[W.heap.size]? =some (ai #[ak ⟨#[]⟩] 105)/\((Z.setCell ⟨W.heap.size,0,none⟩ (ak ⟨#[]⟩)).setCell ⟨W.heap.size+1,0,none⟩ er).drew.heap[W.heap.size+1]? =some (ai #[er] 25)/\aD W ((Z.setCell ⟨W.heap.size,0,none⟩ (ak ⟨#[]⟩)).setCell ⟨W.heap.size+1,0,none⟩ er).drew:=by
 have a:=jC c (ak ⟨#[]⟩);have b:(Z.setCell ⟨W.heap.size,0,none⟩ (ak ⟨#[]⟩)).heap[W.heap.size+1]? =some (ai #[aU] 25):=(bY _ _ _ _ fJ).trans d;refine⟨((gH _ _ _).trans (gH _ _ _)).trans (KeepsOthers.drew _),?_,?_,?_⟩
 .exact(bY _ _ _ _ fJ).trans a
 .exact jC b er
 .exact((e.setCell (p:=⟨W.heap.size,0,none⟩) ay _).setCell (p:=⟨W.heap.size+1,0,none⟩) fJ _).drew
theorem a1X (s:Bs)(hs:s.length<=1000000)(W:ah)(ea:Addr)(rv:Array au)(n:r9 s=true->rv=#[.agg #[bV s],aU])(q:r9 s=false->rv=#[.agg #[ak ⟨#[]⟩],aP 453 (.pointer (some ea))])(hE:W.cell? (aH 1 0)=some (aP 453 (.pointer (some ea)))):
  CallsIn Fence.wide 9 prog 53 #[bV s] W λe w'=>e=ax (aF rv)/\aD W w':=by
 obtain⟨F,H,I,J,L,b0⟩:=Dh W (ai #[ak ⟨#[]⟩] 105) (ai #[aU] 25) (ai #[.int .i64 0] 3) (ai #[bV s] 9);have i:=aK hE;simp only at i;refine callsIn_of_wp_marks func53 rfl trivial ?_ rfl;simp only[ntmps53,ji,eP,iO,Nat.reduceAdd,Nat.reduceSub,jM,jL,jO,jN,gF,fV]
 gi_wp2_with (refine⟨trivial,?_⟩;gi_at_call 98;refine(callsIn_wide.2 (De s _)).mono ?_;rintro e w1 ⟨rfl,k⟩;rw[k];clear k)
 obtain⟨U,hU⟩:∃U,((((W.alloc (ai #[ak ⟨#[]⟩] 105)).alloc (ai #[aU] 25)).alloc (ai #[.int .i64 0] 3)).alloc (ai #[bV s] 9))=U:=⟨_,rfl⟩;rw[hU] at b0 F H I J L⊢;clear hU;refine wpIn_rangeFunc_ownF rfl aa (gf:=159) (lb:=#[.pointer (some ⟨W.heap.size+1+1+1,0,none⟩)]) rfl trivial (enters_of func159 az rfl)
  (encs:=λx:StB=>#[bV x.1]) (Kp:=vo (W.heap.size+1+1+1)) (S:=λxs=>Kn xs=jv s) (Sp:=λp=>Kn p<+:jv s) (N:=(jv s).length) (w0:=U)
  (Ko s hs _ _ U J) vo.trans (λX l o o' hl k h2 h3=>vo.put (w:=U) aa X l o o' hl k h2 h3) (aQ _ _) (λ_=>rfl)
  (λpre X=>X.heap[W.heap.size+1+1]? =some (ai #[.int .i64 (pre.length:Nat)] 3)/\X.heap[W.heap.size]? =some (ai #[ak ⟨#[]⟩] 105)/\X.heap[W.heap.size+1]? =some (ai #[aU] 25)/\aD W X/\OkS (Kn pre)/\U.heap.size<=X.heap.size)
  (λc pre X=>c=.ret/\(∀rest,Cv 0 (Kn pre++rest)=false)/\X.heap[W.heap.size]? =some (ai #[ak ⟨#[]⟩] 105)/\X.heap[W.heap.size+1]? =some (ai #[aP 453 (.pointer (some ea))] 25)/\aD W X)
  (λpre A C a7 hs i h=>⟨jX hs.1 aa i h,jX hs.2.1 aa i h,jX hs.2.2.1 aa i h,qW hs.2.2.2.1 aa i h,hs.2.2.2.2.1,bu hs.2.2.2.2.2 i.size⟩)
  (λc pre A C a7 hs i h=>⟨hs.1,hs.2.1,jX hs.2.2.1 aa i h,jX hs.2.2.2.1 aa i h,qW hs.2.2.2.2 aa i h⟩)
  ⟨I,F,H,b0,OkS.nil,Nat.le_refl _⟩
  (λx=>{tmps:=#[bV s,undef,aI W.heap.size,.pointer (some ⟨W.heap.size+1,0,none⟩),.pointer (some ⟨W.heap.size+1+1,0,none⟩),bV x.1,bV s,.func (.func 159) #[] #[.pointer (some ⟨W.heap.size+1+1+1,0,none⟩)],bV x.1,undef,undef,undef,undef,undef,undef,undef,undef,undef,undef,undef,undef,undef],defers:=[]})
  ?assign ?body ?done ?stop
 case assign=>
  intro l x X K E
  gi_wp2
  exact E
 case body=>
  rintro l pre x X ⟨M,h,r,O,j,hu⟩ P;obtain⟨st,t⟩:=x;have c1:=dB M;have f1:=iU M;have a8:pre.length<=1000001:=by
   have:=oV (s.length+1) s;unfold jv at P;omega
  have u:Kn (pre++[⟨st,t⟩])=Kn pre++[st]:=aG;have Q:(Kn pre).length=pre.length:=dF _;have R:(pre++[(⟨st,t⟩:StB)]).length=pre.length+1:=aG;have IS:=λV=>U7 st t V;have T:=aA Q;have a9:=aA R;obtain⟨c,v⟩:∃c,pre.length=c:=⟨_,rfl⟩;rw[v] at c1 M a8;have y:=aA v;clear v Q R;have z:=jC M (.int .i64 ((c:Int)+1));have a:(X.setCell ⟨W.heap.size+1+1,0,none⟩ (.int .i64 ((c:Int)+1))).heap[W.heap.size]? =some (ai #[ak ⟨#[]⟩] 105):=(bY _ _ _ _ fJ).trans h;have b:(X.setCell ⟨W.heap.size+1+1,0,none⟩ (.int .i64 ((c:Int)+1))).heap[W.heap.size+1]? =some (ai #[aU] 25):=(bY _ _ _ _ fJ).trans r;have d:aD W (X.setCell ⟨W.heap.size+1+1,0,none⟩ (.int .i64 ((c:Int)+1))):=O.setCell fJ _;have Y:vo (W.heap.size+1+1+1) X (X.setCell ⟨W.heap.size+1+1,0,none⟩ (.int .i64 ((c:Int)+1))):=bY _ _ _ _ fJ;have b1:X.heap.size<=(X.setCell ⟨W.heap.size+1+1,0,none⟩ (.int .i64 ((c:Int)+1))).heap.size:=((aQ 0 X).setCell (bf _) _).size;have m:=gH X ⟨W.heap.size+1+1,0,none⟩ (.int .i64 ((c:Int)+1));have b3:(X.setCell ⟨W.heap.size+1+1,0,none⟩ (.int .i64 ((c:Int)+1))).cell? ⟨W.heap.size+1+1,0,none⟩=some (.int .i64 ((c:Int)+1)):=dB z;by_cases h5:5<c+1
  .have b4:5<(c:Int)+1:=aa
   gi_wp2
   refine⟨trivial,?_⟩;obtain⟨X1,Z⟩:∃X1,X.setCell ⟨W.heap.size+1+1,0,none⟩ (.int .i64 ((c:Int)+1))=X1:=⟨_,rfl⟩;rw[Z] at z a b d Y m b3⊢;clear Z;have cR:=dB a;have fR:=iU a;have cQ:=dB b;have fQ:=iU b;have cG:=(d.cell i).trans hE;have b5:¬W.heap.size=W.heap.size+1:=aa;have b6:¬W.heap.size+1=W.heap.size:=aa
   gi_wp2
   have f:=Ww (er:=aP 453 (.pointer (some ea))) a b d
   gi_region
   all_goals gi_wp2
   all_goals exact⟨m.trans f.1,rfl,λrest=>by rw[u];exact j.bad (.inl (by rw[T.out,y.out];omega)) rest,f.2.1,f.2.2.1,f.2.2.2⟩
  .have b4:¬5<(c:Int)+1:=aa;cases hp:xQ st with
   |true=>
    rw[hp] at IS
    gi_wp2_with (refine⟨trivial,?_⟩;gi_at_call 99;refine(CallsIn.inRound l (callsIn_wide.2 (IS _))).mono ?_;rintro e w2 ⟨rfl,g⟩)
    have b7:=gM g z;exact⟨m.trans (xm g),Y.trans (g.block _ aa),by rw[a9.out,y.out];exact b7,gM g a,gM g b,d.trans (g.mono d.size),by rw[u];exact j.snoc (by rw[T.out,y.out];omega) hp,bu hu (bu b1 g.size)⟩
   |false=>
    rw[hp] at IS
    gi_wp2_with (refine⟨trivial,?_⟩;gi_at_call 99;refine(CallsIn.inRound l (callsIn_wide.2 (IS _))).mono ?_;rintro e w2 ⟨rfl,g⟩;have cR:=dB (gM g a);have fR:=iU (gM g a);have cQ:=dB (gM g b);have fQ:=iU (gM g b);have cG:=((d.trans (g.mono d.size)).cell i).trans hE)
    have f:=Ww (er:=aP 453 (.pointer (some ea))) (gM g a) (gM g b) (d.trans (g.mono d.size))
    gi_region
    all_goals gi_wp2
    all_goals exact⟨(m.trans (xm g)).trans f.1,rfl,λrest=>by rw[u];exact j.bad (.inr hp) rest,f.2.1,f.2.2.1,f.2.2.2⟩
 case done=>
  rintro D xs X hD hS ⟨M,h,r,O,j, -⟩ E;have hv:r9 s=true:=by
   have k:=j [];rw[hS,List.append_nil] at k;exact k
  have YF:=n hv;clear n q hv;subst YF;have c1:=dB h;have f1:=iU h;have c2:=dB r;have f2:=iU r;have b5:¬W.heap.size=W.heap.size+1:=aa;have b6:¬W.heap.size+1=W.heap.size:=aa
  gi_wp2
  have a4:=((gH X ⟨W.heap.size,0,none⟩ (bV s)).trans (gH _ ⟨W.heap.size+1,0,none⟩ aU)).same D _ E rfl;refine⟨aG,.inl ⟨_,_,rfl,run_takeDeferred a4,?_⟩⟩;have a:=jC h (bV s);have b8:((X.setCell ⟨W.heap.size,0,none⟩ (bV s)).setCell ⟨W.heap.size+1,0,none⟩ aU).heap[W.heap.size]? =some (ai #[bV s] 105):=(bY _ _ _ _ fJ).trans a;have b:(X.setCell ⟨W.heap.size,0,none⟩ (bV s)).heap[W.heap.size+1]? =some (ai #[aU] 25):=(bY _ _ _ _ fJ).trans r;have b9:=jC b aU;have oc:=dB ((nH (w:=(X.setCell ⟨W.heap.size,0,none⟩ (bV s)).setCell ⟨W.heap.size+1,0,none⟩ aU) (o:=.deferred none) (show W.heap.size≠D by omega)).trans b8);have oq:=dB ((nH (w:=(X.setCell ⟨W.heap.size,0,none⟩ (bV s)).setCell ⟨W.heap.size+1,0,none⟩ aU) (o:=.deferred none) (show W.heap.size+1≠D by omega)).trans b9);refine⟨aF #[.agg #[bV s],aU],?_,rfl,((O.setCell (p:=⟨W.heap.size,0,none⟩) ay _).setCell (p:=⟨W.heap.size+1,0,none⟩) fJ _).trans (belowK_b (w:=W) ay _ D _ _ aa a4 rfl rfl)⟩;simp[results,results53,go_sem,oc,oq]
 case stop=>
  rintro D c pre X hD a5 ⟨rfl,a6,h,r,O⟩ E;have hv:r9 s=false:=by
   obtain⟨rest,B⟩:=a5;have k:=a6 rest;rw[B] at k;exact k
  have YF:=q hv;clear n q hv;subst YF
  gi_wp2
  refine⟨aG,.inl ⟨_,_,rfl,run_takeDeferred E,?_⟩⟩;have c0:=(nH (w:=X) (o:=.deferred none) (show W.heap.size≠D by omega)).trans h;have c3:=(nH (w:=X) (o:=.deferred none) (show W.heap.size+1≠D by omega)).trans r;have oc:=dB c0;have oq:=dB c3;refine⟨aF #[.agg #[ak ⟨#[]⟩],aP 453 (.pointer (some ea))],?_,rfl,O.trans (belowK_b (w:=W) ay X D _ _ aa E rfl rfl)⟩;simp[results,results53,go_sem,oc,oq]
theorem Gw (s:Bs)(hs:s.length<=1000000)(W:ah)(ea:Addr)(hE:W.cell? (aH 1 0)=some (aP 453 (.pointer (some ea)))):
  aJ 53 #[bV s] W λe w'=>e=ax (aF (if r9 s then #[.agg #[bV s],aU] else #[.agg #[ak ⟨#[]⟩],aP 453 (.pointer (some ea))]))/\aD W w':=
 callsIn_wide.1 (a1X s hs W ea _ (λh=>by rw[h];rfl) (λh=>by rw[h];rfl) hE)
end
open Go.RowKit Go.Shelf
theorem Di (s:Bs)(w:ah):aJ 109 #[bV s] w λe w'=>e=ax (bV (firstM s))/\w'=w:=by
 have i:=iL s [102,105,108,108];have h:=iL s [115,104,111,119];have b:=iL s [114,117,108,101];have a:=iL s [108,101,118,101,108];unfold firstM vD zB xR tK;cases c:(s==[102,105,108,108]) with
 |true=>
  rw[c] at i;rw[if_pos (by simpa using c)];clear h b a;go_enter func109,ntmps109;go_wp2_with fail;go_ret;exact⟨rfl,rfl⟩
 |false=>
  rw[c] at i;rw[if_neg (by simpa using c)];cases d:(s==[115,104,111,119]) with
  |true=>
   rw[d] at h;rw[if_pos (by simpa using d)];clear b a;go_enter func109,ntmps109;go_wp2_with fail;go_ret;exact⟨rfl,rfl⟩
  |false=>
   rw[d] at h;rw[if_neg (by simpa using d)];cases f:(s==[114,117,108,101]) with
   |true=>
    rw[f] at b;rw[if_pos (by simpa using f)];clear a;go_enter func109,ntmps109;go_wp2_with fail;go_ret;exact⟨rfl,rfl⟩
   |false=>
    rw[f] at b;rw[if_neg (by simpa using f)];cases g:(s==[108,101,118,101,108]) with
    |true=>
     rw[g] at a;rw[if_pos (by simpa using g)];go_enter func109,ntmps109;go_wp2_with fail;go_ret;exact⟨rfl,rfl⟩
    |false=>
     rw[g] at a;rw[if_neg (by simpa using g)];go_enter func109,ntmps109;go_wp2_with fail;go_ret;exact⟨rfl,rfl⟩
theorem Dj (s:Bs)(w:ah):aJ 105 #[bV s] w λe w'=>e=ax (.bool (Cy s))/\w'=w:=by
 have a:=Di s w;unfold Cy;obtain⟨x,b⟩:∃x,firstM s=x:=⟨_,rfl⟩;rw[b] at a⊢;clear b;have c:=iL x [];unfold bne;cases d:(x==[]) with
 |true=>
  rw[d] at c;go_enter func105,ntmps105;go_wp2_with(go_at_call 109;refine a.mono ?_;rintro e f ⟨rfl,h⟩;rw[h];clear h);go_ret;exact⟨rfl,rfl⟩
 |false=>
  rw[d] at c;go_enter func105,ntmps105;go_wp2_with(go_at_call 109;refine a.mono ?_;rintro e f ⟨rfl,h⟩;rw[h];clear h);go_ret;exact⟨rfl,rfl⟩
theorem YG (s:Bs)(w:ah):aJ 108 #[bV s] w λe w'=>e=ax (.bool (JK s))/\w'=w:=by
 have b:=iL s [102,105,108,108];have a:=iL s [114,117,108,101];unfold JK vD xR;cases c:(s==[102,105,108,108]) with
 |true=>
  rw[c] at b;clear a;go_enter func108,ntmps108;go_wp2_with fail;go_ret;exact⟨rfl,rfl⟩
 |false=>
  rw[c] at b;cases d:(s==[114,117,108,101]) with
  |true=>
   rw[d] at a;go_enter func108,ntmps108;go_wp2_with fail;go_ret;exact⟨rfl,rfl⟩
  |false=>
   rw[d] at a;go_enter func108,ntmps108;go_wp2_with fail;go_ret;exact⟨rfl,rfl⟩
theorem U8 (x:Nat)(w:ah):FnGives prog 181 #[] #[encR x] (.bool (XK x)) w:=by
 show aJ 181 #[.int .i32 (x:Int)] w λe l=>e=ax (.bool (XK x))/\∃q,l=w.drewN q;unfold XK;by_cases g:97<=x
 .have d:(97:Int)<=(x:Int):=aa;rw[decide_eq_true g];by_cases h:x<=122
  .have f:(x:Int)<=122:=aa;rw[decide_eq_true h];go_enter func181,ntmps181;go_wp2_with fail;go_ret;exact⟨rfl,0,rfl⟩
  .have f:¬(x:Int)<=122:=aa;have b:(48:Int)<=(x:Int):=aa;have c:¬(x:Int)<=57:=aa;have a:((x:Int)==45)=false:=by rw[dL];omega
   rw[iH h,decide_eq_true (show 48<=x from by omega),iH (show¬x<=57 from by omega),dL.2 (show x≠45 from by omega)];go_enter func181,ntmps181;go_wp2_with fail;go_ret;exact⟨rfl,0,rfl⟩
 .have d:¬(97:Int)<=(x:Int):=aa;rw[iH g];by_cases i:48<=x
  .have b:(48:Int)<=(x:Int):=aa;rw[decide_eq_true i];by_cases j:x<=57
   .have c:(x:Int)<=57:=aa;rw[decide_eq_true j];go_enter func181,ntmps181;go_wp2_with fail;go_ret;exact⟨rfl,0,rfl⟩
   .have c:¬(x:Int)<=57:=aa;have a:((x:Int)==45)=false:=by rw[dL];omega
    rw[iH j,dL.2 (show x≠45 from by omega)];go_enter func181,ntmps181;go_wp2_with fail;go_ret;exact⟨rfl,0,rfl⟩
  .have b:¬(48:Int)<=(x:Int):=aa;rw[iH i];cases k:(x==45) with
   |true=>
    have a:((x:Int)==45)=true:=by
     have:x=45:=by simpa using k
     subst this;rfl
    go_enter func181,ntmps181;go_wp2_with fail;go_ret;exact⟨rfl,0,rfl⟩
   |false=>
    have a:((x:Int)==45)=false:=by
     have:¬x=45:=by simpa using k
     rw[dL];omega
    go_enter func181,ntmps181;go_wp2_with fail;go_ret;exact⟨rfl,0,rfl⟩
theorem U9 (s:Bs)(w:ah):aJ 120 #[bV s] w λe w'=>e=ax (.bool (yC s))/\aD w w':=by
 have h:=iL s [];unfold yC bne;cases i:(s==[]) with
 |true=>
  rw[i] at h;go_enter func120,ntmps120;go_wp2_with fail;go_ret;exact⟨rfl,aQ _ _⟩
 |false=>
  rw[i] at h;have l:=gL s;by_cases a:s.length<=12
  .have c:¬12<(s.length:Int):=aa;have d:¬12<((⟨s.toArray⟩:aM).size:Int):=aa;rw[decide_eq_true a];have f:=Tryz.strings_ContainsFunc 181 #[] (enters_of func181 az rfl) XK ⟨s.toArray⟩ w (λW x _=>U8 x W);obtain⟨b,j⟩:∃b,decide (0<=Lib.idxFunc XK true ⟨s.toArray⟩)=b:=⟨_,rfl⟩;rw[j] at f⊢;cases b with
   |true=>
    go_enter func120,ntmps120;go_wp2_with(go_at_call 180;refine f.mono ?_;rintro e k ⟨rfl,g⟩);go_ret;exact⟨rfl,g⟩
   |false=>
    go_enter func120,ntmps120;go_wp2_with(go_at_call 180;refine f.mono ?_;rintro e k ⟨rfl,g⟩);go_ret;exact⟨rfl,g⟩
  .have c:12<(s.length:Int):=aa;have d:12<((⟨s.toArray⟩:aM).size:Int):=aa;rw[iH a];go_enter func120,ntmps120;go_wp2_with fail;go_ret;exact⟨rfl,aQ _ _⟩
set_option maxRecDepth 20000
abbrev rlV (r:Rl):au:=.agg #[bV r.wh,bV r.nm,bV r.vl]
def rlR:Option Rl->au
 |none=>aF #[.agg #[ak ⟨#[]⟩,ak ⟨#[]⟩,ak ⟨#[]⟩],.bool false]
 |some r=>aF #[rlV r,.bool true]
def Sq (W:ah):Prop:=∃m,W.cell? (aH 12 0)=some (ag m)
theorem Sq.below {W V:ah}(h:Sq W)(b:aD W V):Sq V:=by
 obtain⟨m,a⟩:=h;exact⟨m,(b.cell (aK a)).trans a⟩
theorem Ae (s a:Bs)(hs:s.length<=1000000)(W:ah)(b:Sq W):
  aJ 59 #[bV s,ak ⟨a.toArray⟩] W λe w'=>e=ax (aF #[bV (Lib.cut s a).1,bV (Lib.cut s a).2.1,.bool (Lib.cut s a).2.2])/\aD W w':=by
 obtain⟨m,b⟩:=b;refine(Tryz.strings_Cut ⟨s.toArray⟩ ⟨a.toArray⟩ m W (by rw[gL];omega) b).mono ?_;rintro e w' ⟨rfl,n,rfl⟩;exact⟨rfl,below_drewN' (aQ _ _) n⟩
theorem Wx {X:ah}{k:Nat}{v:Obj}(o:Obj)(h:X.heap[k]? =some v):(X.alloc o).heap[k]? =some v:=((dI X o).block k (dZ.1 h).1).trans h
theorem wB {w:ah}{R:Nat}{cs:Array au}{t:TypeId}(h:w.heap[R]? =some (ai cs t))(o:Nat)(v:au):(w.setCell ⟨R,o,none⟩ v).heap[R]? =some (ai (cs.setIfInBounds o v) t):=by simp[World.setCell,Array.getElem?_modify,h]
theorem Jl {W w:ah}{R:Nat}{a b c:au}{t:TypeId}(h:w.heap[R]? =some (ai #[a,b,c] t))(d:W.heap.size<=R)(f:aD W w)(x y z:au):
  ∀U,((w.setCell ⟨R,0,none⟩ x).setCell ⟨R,1,none⟩ y).setCell ⟨R,2,none⟩ z=U->U.cell? (aH R 0)=some x/\U.cell? (aH R 1)=some y/\U.cell? (aH R 2)=some z/\aD W U:=by
 rintro U rfl;have e:=wB (wB (wB h 0 x) 1 y) 2 z;exact⟨aO e 0 _ rfl,aO e 1 _ rfl,aO e 2 _ rfl,((f.setCell (p:=⟨R,0,none⟩) d _).setCell (p:=⟨R,1,none⟩) d _).setCell (p:=⟨R,2,none⟩) d _⟩
theorem Mx (s:Bs)(hs:s.length<=1000000)(W:ah)(ea:Addr)(hE:W.cell? (aH 1 0)=some (aP 453 (.pointer (some ea))))(E:Sq W):
  aJ 72 #[bV s] W λe w'=>e=ax (rlR (uM s))/\aD W w':=by
 obtain⟨a5,k⟩:∃x,uM s=x:=⟨_,rfl⟩;have F:=k;unfold uM at F;rw[k];clear k;have S:=λV (E:Sq V)=>Ae s [32,123,32] hs V E;have l1:=o8 s [32,123,32];have l2:=vF s [32,123,32];obtain⟨m,n⟩:∃x,(Lib.cut s [32,123,32]).1=x:=⟨_,rfl⟩;obtain⟨t,o⟩:∃x,(Lib.cut s [32,123,32]).2.1=x:=⟨_,rfl⟩;obtain⟨o1,u⟩:∃x,(Lib.cut s [32,123,32]).2.2=x:=⟨_,rfl⟩;rw[n,o,u] at F;simp only[n,o,u] at S;rw[n] at l1;rw[o] at l2;clear n o u;have CS:∀V,aJ 119 #[bV t,ak ⟨#[32,125]⟩] V λe w'=>e=ax (aF #[bV (Lib.trimSuffix t [32,125]),.bool (Lib.hasSuffix t [32,125])])/\w'=V:=λV=>Tryz.strings_CutSuffix ⟨t.toArray⟩ ⟨#[32,125]⟩ V (by rw[gL];omega);have l3:=XL t [32,125];obtain⟨r1,p⟩:∃x,Lib.trimSuffix t [32,125]=x:=⟨_,rfl⟩;obtain⟨cl,w⟩:∃x,Lib.hasSuffix t [32,125]=x:=⟨_,rfl⟩;rw[p,w] at F;simp only[p,w] at CS;rw[p] at l3;clear p w;have C2:=λV (E:Sq V)=>Ae r1 [58,32] aa V E;obtain⟨T,y⟩:∃x,(Lib.cut r1 [58,32]).1=x:=⟨_,rfl⟩;obtain⟨X,z⟩:∃x,(Lib.cut r1 [58,32]).2.1=x:=⟨_,rfl⟩;obtain⟨pt,A⟩:∃x,(Lib.cut r1 [58,32]).2.2=x:=⟨_,rfl⟩;rw[y,z,A] at F;simp only[y,z,A] at C2;clear y z A;have B:=aA F;clear F;have n0:=dN W #[ak ⟨#[]⟩,ak ⟨#[]⟩,ak ⟨#[]⟩] 150;have b0:=dI W (ai #[ak ⟨#[]⟩,ak ⟨#[]⟩,ak ⟨#[]⟩] 150);go_enter func72,ntmps72;go_upto_region 1 with fail;obtain⟨V,hV⟩:∃V,W.alloc (ai #[ak ⟨#[]⟩,ak ⟨#[]⟩,ak ⟨#[]⟩] 150)=V:=⟨_,rfl⟩;rw[hV] at n0 b0⊢;clear hV;have HM:Hid (Sq V):=E.below b0;have HE:Hid (V.cell? (aH 1 0)=some (aP 453 (.pointer (some ea)))):=(b0.cell (aK hE)).trans hE;clear E hE;have S:=S V HM.out;go_upto_region 2 with(go_at_call 59;refine S.mono ?_;rintro e w1 ⟨rfl,b1⟩);have Y:=CS w1;go_upto_region 3 with(go_at_call 119;refine Y.mono ?_;rintro e r ⟨rfl,h2⟩;rw[h2];clear h2);have Z:=C2 w1 (HM.out.below b1);go_upto_region 4 with(go_at_call 59;refine Z.mono ?_;rintro e r ⟨rfl,b2⟩)
 clear S CS Y C2 Z;have q2:=aW b1 b2;have a:=gM q2 n0;have H:=Dj T r;have IV:=U9 X r;have d:=aW b0 q2;have RD:=λV' (hb:aD V V')=>Gw m aa V' ea ((hb.cell (aK HE.out)).trans HE.out);have a4:=λV' (hb:aD r V')=>RD V' (aW q2 hb);clear RD;cases o1 with
 |false=>
  have I:=aO a 0 _ rfl;have J:=aO a 1 _ rfl;have K:=aO a 2 _ rfl;have L:=bq a 0;have M:=bq a 1;have N:=bq a 2;go_wp2_with fail;obtain⟨U,b⟩:∃U,((r.setCell ⟨W.heap.size,0,none⟩ (ak ⟨#[]⟩)).setCell ⟨W.heap.size,1,none⟩ (ak ⟨#[]⟩)).setCell ⟨W.heap.size,2,none⟩ (ak ⟨#[]⟩)=U:=⟨_,rfl⟩;obtain⟨f,g,i,j⟩:=Jl a ay d (ak ⟨#[]⟩) (ak ⟨#[]⟩) (ak ⟨#[]⟩) U b;rw[b];refine bodyPost_ret (v:=aF #[.agg #[(ak ⟨#[]⟩),(ak ⟨#[]⟩),(ak ⟨#[]⟩)],.bool false]) (by simp[results,results72,go_sem,f,g,i]) rfl ⟨by rw[<- B.out];rfl,j⟩
 |true=>
  cases cl with
  |false=>
   have I:=aO a 0 _ rfl;have J:=aO a 1 _ rfl;have K:=aO a 2 _ rfl;have L:=bq a 0;have M:=bq a 1;have N:=bq a 2;go_wp2_with fail;obtain⟨U,b⟩:∃U,((r.setCell ⟨W.heap.size,0,none⟩ (ak ⟨#[]⟩)).setCell ⟨W.heap.size,1,none⟩ (ak ⟨#[]⟩)).setCell ⟨W.heap.size,2,none⟩ (ak ⟨#[]⟩)=U:=⟨_,rfl⟩;obtain⟨f,g,i,j⟩:=Jl a ay d (ak ⟨#[]⟩) (ak ⟨#[]⟩) (ak ⟨#[]⟩) U b;rw[b];refine bodyPost_ret (v:=aF #[.agg #[(ak ⟨#[]⟩),(ak ⟨#[]⟩),(ak ⟨#[]⟩)],.bool false]) (by simp[results,results72,go_sem,f,g,i]) rfl ⟨by rw[<- B.out];rfl,j⟩
  |true=>
   cases pt with
   |false=>
    have I:=aO a 0 _ rfl;have J:=aO a 1 _ rfl;have K:=aO a 2 _ rfl;have L:=bq a 0;have M:=bq a 1;have N:=bq a 2;go_wp2_with fail;obtain⟨U,b⟩:∃U,((r.setCell ⟨W.heap.size,0,none⟩ (ak ⟨#[]⟩)).setCell ⟨W.heap.size,1,none⟩ (ak ⟨#[]⟩)).setCell ⟨W.heap.size,2,none⟩ (ak ⟨#[]⟩)=U:=⟨_,rfl⟩;obtain⟨f,g,i,j⟩:=Jl a ay d (ak ⟨#[]⟩) (ak ⟨#[]⟩) (ak ⟨#[]⟩) U b;rw[b];refine bodyPost_ret (v:=aF #[.agg #[(ak ⟨#[]⟩),(ak ⟨#[]⟩),(ak ⟨#[]⟩)],.bool false]) (by simp[results,results72,go_sem,f,g,i]) rfl ⟨by rw[<- B.out];rfl,j⟩
   |true=>
    cases O:Cy T with
    |false=>
     rw[O] at H;have I:=aO a 0 _ rfl;have J:=aO a 1 _ rfl;have K:=aO a 2 _ rfl;have L:=bq a 0;have M:=bq a 1;have N:=bq a 2;go_wp2_with(go_at_call 105;refine H.mono ?_;rintro e P ⟨rfl,h⟩;rw[h];clear h);obtain⟨U,b⟩:∃U,((r.setCell ⟨W.heap.size,0,none⟩ (ak ⟨#[]⟩)).setCell ⟨W.heap.size,1,none⟩ (ak ⟨#[]⟩)).setCell ⟨W.heap.size,2,none⟩ (ak ⟨#[]⟩)=U:=⟨_,rfl⟩;obtain⟨f,g,i,j⟩:=Jl a ay d (ak ⟨#[]⟩) (ak ⟨#[]⟩) (ak ⟨#[]⟩) U b;rw[b];refine bodyPost_ret (v:=aF #[.agg #[(ak ⟨#[]⟩),(ak ⟨#[]⟩),(ak ⟨#[]⟩)],.bool false]) (by simp[results,results72,go_sem,f,g,i]) rfl ⟨by rw[<- B.out];rw[O];rfl,j⟩
    |true=>
     rw[O] at H;cases hv:yC X with
     |false=>
      rw[hv] at IV;go_upto_region 5 with(first|(go_at_call 105;refine H.mono ?_;rintro e P ⟨rfl,h⟩;rw[h];clear h)|(go_at_call 120;refine IV.mono ?_;rintro e P ⟨rfl,Q⟩));have l:=gM Q a;have R:=aW d Q;have I:=aO l 0 _ rfl;have J:=aO l 1 _ rfl;have K:=aO l 2 _ rfl;have L:=bq l 0;have M:=bq l 1;have N:=bq l 2;go_wp2_with fail;obtain⟨U,b⟩:∃U,((P.setCell ⟨W.heap.size,0,none⟩ (ak ⟨#[]⟩)).setCell ⟨W.heap.size,1,none⟩ (ak ⟨#[]⟩)).setCell ⟨W.heap.size,2,none⟩ (ak ⟨#[]⟩)=U:=⟨_,rfl⟩;obtain⟨f,g,i,j⟩:=Jl l ay R (ak ⟨#[]⟩) (ak ⟨#[]⟩) (ak ⟨#[]⟩) U b;rw[b];refine bodyPost_ret (v:=aF #[.agg #[(ak ⟨#[]⟩),(ak ⟨#[]⟩),(ak ⟨#[]⟩)],.bool false]) (by simp[results,results72,go_sem,f,g,i]) rfl ⟨by rw[<- B.out];rw[O,hv];rfl,j⟩
     |true=>
      rw[hv] at IV;go_upto_region 6 with(first|(go_at_call 105;refine H.mono ?_;rintro e P ⟨rfl,h⟩;rw[h];clear h)|(go_at_call 120;refine IV.mono ?_;rintro e P ⟨rfl,Q⟩));have l:=gM Q a;have R:=aW d Q;have q:=a4 P Q;clear a4 H IV;cases hs:r9 m with
      |false=>
       rw[hs,if_neg aG] at q;go_upto_region 8 with(go_at_call 53;refine q.mono ?_;rintro e w4 ⟨rfl,C⟩);have c:=Wx (ai #[ak ⟨#[]⟩] 105) (gM C l);have D:=(aW R C).alloc (aW R C).size (ai #[ak ⟨#[]⟩] 105);have I:=aO c 0 _ rfl;have J:=aO c 1 _ rfl;have K:=aO c 2 _ rfl;have L:=bq c 0;have M:=bq c 1;have N:=bq c 2;go_wp2_with fail;obtain⟨U,b⟩:∃U,(((w4.alloc (ai #[ak ⟨#[]⟩] 105)).setCell ⟨W.heap.size,0,none⟩ (ak ⟨#[]⟩)).setCell ⟨W.heap.size,1,none⟩ (ak ⟨#[]⟩)).setCell ⟨W.heap.size,2,none⟩ (ak ⟨#[]⟩)=U:=⟨_,rfl⟩;obtain⟨f,g,i,j⟩:=Jl c ay D (ak ⟨#[]⟩) (ak ⟨#[]⟩) (ak ⟨#[]⟩) U b;rw[b];refine bodyPost_ret (v:=aF #[.agg #[(ak ⟨#[]⟩),(ak ⟨#[]⟩),(ak ⟨#[]⟩)],.bool false]) (by simp[results,results72,go_sem,f,g,i]) rfl ⟨by rw[<- B.out];rw[O,hv,hs];rfl,j⟩
      |true=>
       rw[hs,if_pos rfl] at q;go_upto_region 9 with(go_at_call 53;refine q.mono ?_;rintro e w4 ⟨rfl,C⟩);have c:=Wx (ai #[bV m] 105) (gM C l);have m4:=dN w4 #[bV m] 105;have d4:=aO m4 0 _ rfl;have D:=(aW R C).alloc (aW R C).size (ai #[bV m] 105);have I:=aO c 0 _ rfl;have J:=aO c 1 _ rfl;have K:=aO c 2 _ rfl;have L:=bq c 0;have M:=bq c 1;have N:=bq c 2;go_wp2_with fail;obtain⟨U,b⟩:∃U,(((w4.alloc (ai #[bV m] 105)).setCell ⟨W.heap.size,0,none⟩ (bV m)).setCell ⟨W.heap.size,1,none⟩ (bV T)).setCell ⟨W.heap.size,2,none⟩ (bV X)=U:=⟨_,rfl⟩;obtain⟨f,g,i,j⟩:=Jl c ay D (bV m) (bV T) (bV X) U b;rw[b];refine bodyPost_ret (v:=aF #[.agg #[(bV m),(bV T),(bV X)],.bool true]) (by simp[results,results72,go_sem,f,g,i]) rfl ⟨by rw[<- B.out];rw[O,hv,hs];rfl,j⟩
def fE:List Rl->List au
 |[]=>[]
 |r::l=>bV r.wh::bV r.nm::bV r.vl::fE l
theorem Dk:∀(l:List Rl) (r:Rl),fE (l++[r])=fE l++[bV r.wh,bV r.nm,bV r.vl]
 |[],_=>rfl
 |x::l,r=>by rw[fV,fE,fE,Dk l r];rfl
theorem Kr:∀{l:List Rl} {i:Nat} {r:Rl},l[i]? =some r->(fE l)[i*3]? =some (bV r.wh)/\(fE l)[i*3+1]? =some (bV r.nm)/\(fE l)[i*3+2]? =some (bV r.vl)
 |[],_,_,h=>by simp at h
 |y::l,0,x,h=>by
  simp at h;subst h;exact⟨rfl,rfl,rfl⟩
 |y::l,i+1,x,h=>by
  have a:=Kr (l:=l) (i:=i) (r:=x) (by simpa using h);rw[show(i+1)*3=i*3+1+1+1 from by omega];exact⟨by simpa[fE] using a.1,by simpa[fE] using a.2.1,by simpa[fE] using a.2.2⟩
theorem aaV:(prog.info? 150).map (λi=>(i.zero,i.size,i.bytes))=some (some (.agg #[ak ByteArray.empty,ak ByteArray.empty,ak ByteArray.empty]),3,48):=az
theorem a6C {w:ah}{a:Nat}{e:TypeId}{b:Nat}{v:au}{n:Nat}{c:List au}(h:w.ownsRow a e b v n c):∀k,v.ownBlock=some k->a<=k:=λk d=>(h.lt k d).1
theorem Q9 (w:ah)(x y z:au)(t:TypeId):∀j u,[x,y,z][j]? =some u->(w.alloc (ai #[x,y,z] t)).cell? ((⟨w.heap.size,0,none⟩:Addr).add j)=some u:=by
 intro j u h
 match j,h with
 |0,h=>simp at h;subst h;exact jZ w #[x,y,z] t 0 x rfl
 |1,h=>simp at h;subst h;exact jZ w #[x,y,z] t 1 y rfl
 |2,h=>simp at h;subst h;exact jZ w #[x,y,z] t 2 z rfl
def ShR (ea c:Addr)(a:Nat)(r:Except Nat (List Rl))(e:Ending)(w:ah):Prop:=match r with
 | .error k=>∃b,e=ax (aF #[aj none 0 0,aP 67 (aI b)])/\w.heap[b]? =some (ai #[ag k,aP 453 (.pointer (some ea))] 71)
 | .ok l=>(40<l.length/\e=ax (aF #[aj none 0 0,aP 453 (.pointer (some c))]))\/(l.length<=40/\∃v,e=ax (aF #[v,aU])/\w.ownsRow a 150 3 v l.length (fE l))
theorem Kt (s:Bs)(hs:s.length<=10000)(W:ah)(ea ef:Addr)(hE:W.cell? (aH 1 0)=some (aP 453 (.pointer (some ea))))(hF:W.cell? (aH 6 0)=some (aP 453 (.pointer (some ef))))(hm:Sq W):
  aJ 38 #[bV s] W λe w'=>ShR ea ef W.heap.size (Lv s) e w'/\aD W w':=by
 obtain⟨i0,hi,S,T,U⟩:=info_parts aaV;have HM:=aA hm;have M:=aA hE;have HF:=aA hF;have X:=gL s;have b4:¬10000<(s.length:Int):=aa;have b5:¬10000<((⟨s.toArray⟩:aM).size:Int):=aa;obtain⟨c,j⟩:∃x,Lv s=x:=⟨_,rfl⟩;have HS:=aA j;rw[j];clear j hm hE hF X;go_enter func38,ntmps38;go_wp2_with fail
 go_loopw [0,4,5] (λx v y wr=>∃(f:Nat) (t:Bs) (a:List Rl),x=bV t/\y=ag a.length/\t.length<f/\a.length+t.length<=10000/\SY f a t=c/\wr.ownsRow W.heap.size 150 3 v a.length (fE a)/\aD W wr) (λx _ _ _=>Q5 x)
 case atStart=>exact⟨_,s,[],rfl,rfl,Nat.lt_succ_self _,by simpa using hs,HS.out,gp _ _ _ _,aQ _ _⟩
 case round=>
  obtain⟨f,t,a,rfl,rfl,hf,b6,N,E,d⟩:=hrel;have Y:=aA E;have u:=aA N;have h0:=iL t [];have b7:=d.size;clear E N;obtain⟨ov,kv,Z⟩:=bg Y.out;subst Z;cases ht:(t==[]) with
  |true=>
   have k:t=[]:=by simpa using ht
   subst k;have l:c=.ok a:=by rw[<- u.out,VA]
   subst l;by_cases a4:40<a.length
   .have a5:40<(a.length:Int):=aa;have cF:=(d.cell (aK HF.out)).trans HF.out;go_upto_region 14 with fail;go_region
    all_goals go_wp2_with fail
    all_goals go_ret2
    all_goals exact⟨.inl ⟨a4,rfl⟩,d.drew⟩
   .have a5:¬40<(a.length:Int):=aa;go_wp2_with fail
    go_ret2
    exact⟨.inr ⟨aa,_,rfl,Y.out⟩,d⟩
  |false=>
   have k:t≠[]:=by intro e;subst e;simp at ht
   have a6:t.length<=1000000:=aa;obtain⟨g,rfl⟩:∃g,f=g+1:=⟨f-1,aa⟩;have C1:=Ae t [10] a6 wr (HM.out.below d);have l1:=o8 t [10];have l2:=Vz t [10];obtain⟨Q,m⟩:∃x,(Lib.cut t [10]).1=x:=⟨_,rfl⟩;obtain⟨rs,w⟩:∃x,(Lib.cut t [10]).2.1=x:=⟨_,rfl⟩;obtain⟨R,n⟩:∃x,(Lib.cut t [10]).2.2=x:=⟨_,rfl⟩;have F:uM Q=none->c=.error a.length:=λh=>by rw[<- u.out];exact VB k (by rw[m];exact h)
   have o:R=false->c=.error a.length:=λh=>by rw[<- u.out];exact O3 k (by rw[n];exact h)
   have p:∀r,uM Q=some r->R=true->SY g (a++[r]) rs=c:=λr h1 h2=>by rw[<- u.out,O4 k (by rw[m];exact h1) (by rw[n];exact h2),w]
   rw[m,w,n] at C1;rw[m] at l1;rw[w,n] at l2;clear m w n;have HB:=aA F;have HP:=aA o;have a7:=aA p;have a8:=aA l2;clear F o p l2;have RR:=λV (hv:aD wr V)=>Mx Q aa V ea (((aW d hv).cell (aK M.out)).trans M.out) (HM.out.below (aW d hv));obtain⟨ro,I⟩:∃x,uM Q=x:=⟨_,rfl⟩;simp only[I] at RR;have O:=aA I;clear I;go_upto_region 8 with(go_at_call 59;refine C1.mono ?_;rintro e w1 ⟨rfl,z⟩);have b:=RR w1 z;clear RR C1;cases ro with
   |none=>
    unfold rlR at b;go_upto_region 9 with(go_at_call 72;refine b.mono ?_;rintro e A ⟨rfl,q⟩);clear b;have B:=dI A (ai #[ak ⟨#[]⟩,ak ⟨#[]⟩,ak ⟨#[]⟩] 150);have i:=(aW (aW d z) q).alloc (aW (aW d z) q).size (ai #[ak ⟨#[]⟩,ak ⟨#[]⟩,ak ⟨#[]⟩] 150);obtain⟨V3,H⟩:∃V,A.alloc (ai #[ak ⟨#[]⟩,ak ⟨#[]⟩,ak ⟨#[]⟩] 150)=V:=⟨_,rfl⟩;rw[H] at i⊢;clear H B;have cE:=(i.cell (aK M.out)).trans M.out;have l:c=.error a.length:=HB.out O.out;subst l;have C:=dN V3 #[ag a.length,aP 453 (.pointer (some ea))] 71;have D:=i.alloc i.size (ai #[ag a.length,aP 453 (.pointer (some ea))] 71);cases R with
    |true=>
     go_upto_region 10 with fail;go_region
     all_goals go_wp2_with fail
     all_goals go_ret2
     all_goals exact⟨⟨_,rfl,C⟩,D.drew⟩
    |false=>
     go_upto_region 10 with fail;go_region
     all_goals go_wp2_with fail
     all_goals go_ret2
     all_goals exact⟨⟨_,rfl,C⟩,D.drew⟩
   |some r=>
    unfold rlR at b;cases R with
    |false=>
     go_upto_region 9 with(go_at_call 72;refine b.mono ?_;rintro e A ⟨rfl,q⟩);clear b;have B:=dI A (ai #[bV r.wh,bV r.nm,bV r.vl] 150);have i:=(aW (aW d z) q).alloc (aW (aW d z) q).size (ai #[bV r.wh,bV r.nm,bV r.vl] 150);obtain⟨V3,H⟩:∃V,A.alloc (ai #[bV r.wh,bV r.nm,bV r.vl] 150)=V:=⟨_,rfl⟩;rw[H] at i⊢;clear H B;have cE:=(i.cell (aK M.out)).trans M.out;have l:c=.error a.length:=HP.out aG;subst l;have C:=dN V3 #[ag a.length,aP 453 (.pointer (some ea))] 71;have D:=i.alloc i.size (ai #[ag a.length,aP 453 (.pointer (some ea))] 71);go_upto_region 10 with fail;go_region
     all_goals go_wp2_with fail
     all_goals go_ret2
     all_goals exact⟨⟨_,rfl,C⟩,D.drew⟩
    |true=>
     go_upto_region 9 with(go_at_call 72;refine b.mono ?_;rintro e A ⟨rfl,q⟩);clear b;have B:=dN A #[bV r.wh,bV r.nm,bV r.vl] 150;have B3:=(aW z q).alloc (aW z q).size (ai #[bV r.wh,bV r.nm,bV r.vl] 150);have i:=(aW (aW d z) q).alloc (aW (aW d z) q).size (ai #[bV r.wh,bV r.nm,bV r.vl] 150);obtain⟨V3,H⟩:∃V,A.alloc (ai #[bV r.wh,bV r.nm,bV r.vl] 150)=V:=⟨_,rfl⟩;obtain⟨P,hP⟩:∃V,A.heap.size=V:=⟨_,rfl⟩;rw[H] at i B3 B⊢;rw[hP] at B⊢;clear H hP q;have J:Hid (V3.ownsRow W.heap.size 150 3 (aj ov a.length kv) a.length (fE a)):=bD Y.out B3;have p0:=aO B 0 _ rfl;have p1:=aO B 1 _ rfl;have p2:=aO B 2 _ rfl;have a9:=i.size;have b8:(fE a).length=a.length*3:=J.out.1;go_wp2_with(at_builtin;refine wpList_append_own _ rfl _ _ 77 rfl W.heap.size 150 i0 (.agg #[ak ByteArray.empty,ak ByteArray.empty,ak ByteArray.empty]) 3 48 underlying77 hi S T U rfl aC _ _ _ rfl (ig J.out _) ⟨V3.heap.size,0,none⟩ 1 1 [bV r.wh,bV r.nm,bV r.vl] rfl rfl (Q9 V3 _ _ _ _) (λx hx=>by simp at hx;rcases hx with rfl|rfl|rfl<;>rfl) (by rw[dh];omega) aa aX ?_;intro v' w4 K L _);have b0:=(i.alloc a9 _).grown L aX (a6C J.out);have b3:=a8.out aG aG
     go_roundw
     case rel=>exact⟨g,rs,a++[r],rfl,aG,aa,aX,a7.out r O.out aG,by rw[Dk,dJ];exact K,b0⟩
     case measure=>simp only[BF];simpa[BF] using b3
