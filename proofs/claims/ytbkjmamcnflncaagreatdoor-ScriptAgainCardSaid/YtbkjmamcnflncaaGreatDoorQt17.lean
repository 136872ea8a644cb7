import Derived.Test.YtbkjmamcnflncaaGreatDoorQt16
namespace Go.Proofs.YtbkjmamcnflncaaGreatDoor
open Go.Proofs.Tryz
set_option maxHeartbeats 8000000
variable{w A C:ai}{v:ax}{t:TypeId}
section
theorem Ec (s:aO)(a:Nat)(h:a<s.size)(g:128<=(s[a]'h).toNat):∀k,1<=k->k<(Utf8.decode s a).2->a+k<s.size/\128<=(s.get! (a+k)).toNat:=by
 have d:¬(s[a]'h).toNat<128:=aa;intro k e b;have i:(Utf8.decode s a).2<=4:=by
  simp only[Utf8.decode];grind
 simp only[Utf8.decode,get_at s a h,d,if_false] at b;have f:∀k,(decide (a+k<s.size) && ((s.get! (a+k)).toNat/64==2))=true->a+k<s.size/\128<=(s.get! (a+k)).toNat:=by grind
 split at b
 .rename_i c;grind
 .split at b
  .rename_i c;rw[jg,jg] at c;have:k=1\/k=2:=by split at b<;>simp only at b<;>omega
   grind
  .split at b
   .rename_i c;rw[jg,jg,jg] at c;have:k=1\/k=2\/k=3:=by split at b<;>simp only at b<;>omega
    grind
   .omega
theorem QH (s:aO)(a:Nat)(h:a<s.size):a+(Utf8.decode s a).2<=s.size:=by
 by_cases b:128<=(s[a]'h).toNat
 .have d:=(decode_high s a h b).2;by_cases e:(Utf8.decode s a).2=1
  .omega
  .have:=(Ec s a h b ((Utf8.decode s a).2-1) aa aa).1;omega
 .have c:(s[a]'h).toNat<128:=aa;simp only[Utf8.decode,get_at s a h,c,if_true];omega
theorem QI (r:Int)(h:128<=r):2<=(Utf8.encode r).size/\(Utf8.encode r).size<=4/\∀x∈(Utf8.encode r).data.toList,128<=x.toNat:=by
 unfold Utf8.encode;simp only;generalize hc:(if Utf8.valid r=true then r.toNat else Utf8.runeError)=c;have f:128<=c:=by
  rw[<- hc];split
  .omega
  .decide
 have g:c<=1114111:=by
  rw[<- hc];split
  .rename_i a;unfold Utf8.valid at a;grind
  .decide
 have b:∀n:Nat,128<=n->n<256->128<=(UInt8.ofNat n).toNat:=λn d e=>by
  rw[UInt8.toNat_ofNat',Nat.mod_eq_of_lt (by simpa using e)];exact d
 rw[aG aa];split
 .refine⟨by simp[ByteArray.size],by simp[ByteArray.size],?_⟩;grind
 .split
  .refine⟨by simp[ByteArray.size],by simp[ByteArray.size],?_⟩;grind
  .refine⟨by simp[ByteArray.size],by simp[ByteArray.size],?_⟩;grind
end
section
open Go.RowKit Go.Shelf
set_option maxRecDepth 20000
theorem JU (w:ai):aL 286 #[au ⟨#[35,46,91]⟩,.int .i32 65533] w λe w'=>e=ay (ag (-1))/\aD w w':=by
 go_enter func286,ntmps286;go_wp2_with fail
 go_loopg [5,6] 3 (λg _ _ d=>∃i:Nat,i+g=3/\d=w.iter ⟨#[35,46,91]⟩ i)
 case atStart=>exact⟨0,aa,rfl⟩
 case round=>
  obtain⟨i,f,rfl⟩:=hrel;cases gk with
  |zero=>
   obtain rfl:i=3:=aa;have a:=run_next_end (P:=prog) w ⟨#[35,46,91]⟩ 3;go_wp2;go_ret;exact⟨rfl,(aW _ _).alloc az _⟩
  |succ g=>
   have b:i<(⟨#[35,46,91]⟩:aO).size:=by
    show i<3;omega
   have a:=λh=>run_next_ascii (P:=prog) w ⟨#[35,46,91]⟩ i h b (by
    have:i=0\/i=1\/i=2:=aa;rcases this with rfl|rfl|rfl
    .exact(by decide:(35:UInt8).toNat<128)
    .exact(by decide:(46:UInt8).toNat<128)
    .exact(by decide:(91:UInt8).toNat<128))
   obtain⟨x,c⟩:∃x:UInt8,(⟨#[35,46,91]⟩:aO)[i]'b=x:=⟨_,rfl⟩;have j:((x.toNat:Int)==65533)=false:=by
    rw[dW];have:=x.toNat_lt;omega
   rw[c] at a;clear c;go_wp2
   go_roundg g
   case measure=>omega
   case rel=>exact⟨i+1,aa,rfl⟩
theorem a7s (x c:UInt8)(h:128<=x.toNat)(hc:c.toNat<128):((c.toNat:Int) !=(x.toNat:Int))=true:=by grind
theorem a7t (l:List UInt8)(x:UInt8)(h:128<=x.toNat)(d:∀c∈l,c.toNat<128):Lib.indexByte l x= -1:=by
 have a:=Lib.contains_iff_indexByte l x;have b:l.contains x=false:=by grind
 rw[b] at a;have e:=of_decide_eq_false a.symm;have f:=Lib.indexByte_ge l x;omega
theorem JV (S:aO)(hS:∀c∈S.data.toList,c.toNat<128)(r:Int)(q:128<=r)(he:r≠65533)(w:ai):aL 286 #[au S,.int .i32 r] w λe w'=>e=ay (ag (-1))/\aD w w':=by
 have s:(r==65533)=false:=by rw[dW];exact he
 have b:=Tryz.utf8_ValidRune r w;have K:¬r<128:=aa;have M:0<=r:=aa;cases n:Lib.validRune r with
 |false=>
  rw[n] at b;go_enter func286,ntmps286;go_wp2_with(go_at_call 334;refine b.mono ?_;rintro e t ⟨rfl,h⟩;rw[h];clear h);go_ret;exact⟨rfl,aW _ _⟩
 |true=>
  rw[n] at b;obtain⟨u,v,i⟩:=QI r q;obtain⟨E,hE⟩:∃E,Utf8.encode r=E:=⟨_,rfl⟩;rw[hE] at u v i;have o:=aF hE;clear hE;go_enter func286,ntmps286;go_wp2_with(go_at_call 334;refine b.mono ?_;rintro e t ⟨rfl,h⟩;rw[h];clear h)
  go_step3
  go_upto_region 2 with fail;rw[o.out];obtain⟨L,N⟩:∃L:Nat,(E.size:Int)-1=L:=⟨E.size-1,aa⟩;have j:L<E.size:=aa;have z:(L:Int)<(E.size:Int):=aa;obtain⟨x,A⟩:∃x:UInt8,E[L]'j=x:=⟨_,rfl⟩;have d:128<=x.toNat:=by
   refine i x ?_;rw[<- A];simp[ByteArray.getElem_eq_getElem_data]
  clear i o b;go_wp2_with fail
  go_loopw [9,10] (λB k wr=>B=ag (L:Nat)/\k=ag 0/\wr=w) (λ_ _ _=>0)
  case atStart=>exact⟨rfl,rfl,rfl⟩
  case round=>
   obtain⟨rfl,rfl,f⟩:=hrel;rw[f];clear f;by_cases l:L<S.size
   .have g:(L:Int)<(S.size:Int):=aa;obtain⟨a,C⟩:∃a:Nat,(L:Int)+1=a:=⟨L+1,aa⟩;have D:(a:Int)<=(S.size:Int):=aa;obtain⟨y,F⟩:∃y:UInt8,S[L]'l=y:=⟨_,rfl⟩;have m:y.toNat<128:=by
     refine hS y ?_;rw[<- F];simp[ByteArray.getElem_eq_getElem_data]
    have H:=a7s x y d m;have I:∀V,aL 200 #[au (S.extract a S.size),.int .u8 x.toNat] V λe w'=>e=ay (ag (-1))/\w'=V:=λV=>by
     have h:=Tryz.strings_IndexByte (S.extract a S.size) x.toNat V;rw[show((x.toNat:Int)).toNat.toUInt8=x from by simp,a7t _ x d (by
      intro c p;refine hS c ?_;simp only[ByteArray.data_extract,Array.toList_extract] at p;exact List.mem_of_mem_drop (List.mem_of_mem_take p))] at h
     exact h
    have J:IntKind.i64.wrap (a:Int)=(a:Int):=IntWalk.i64_in _ aa;go_wp2_with fail
    go_step3
    go_upto_region 6 with fail;go_region;go_upto_region 7 with fail
    go_region_with ((go_at_call 200;refine(I _).mono ?_;rintro e O ⟨rfl,h⟩;rw[h];clear h))
    go_wp2_with fail;rw[Exit.noGoto_ret];go_wp2_with fail;rw[Exit.noGoto_ret];go_wp2_with fail;go_ret;exact⟨rfl,(aW _ w).drew.drew⟩
   .have g:¬(L:Int)<(S.size:Int):=aa;go_wp2_with fail;go_ret;exact⟨rfl,aW _ _⟩
theorem Hy (r:Int)(d:128<=r)(w:ai):aL 286 #[au ⟨#[35,46,91]⟩,.int .i32 r] w λe w'=>e=ay (ag (-1))/\aD w w':=by
 by_cases a:r=65533
 .subst a;exact JU w
 .exact JV ⟨#[35,46,91]⟩ (by intro c b;simp at b;rcases b with rfl|rfl|rfl<;>decide) r d a w
end
section
open Go.RowKit Go.Shelf
set_option maxRecDepth 1000000
theorem uU {v:ai}(h:aD w v)(k:Nat)(b:w.heap.size<=k)(S:aO)(p:Nat):aD w (v.iterAt k S p):=
 ⟨h.os,h.tape,h.output,by rw[Lib.iterAt_size];exact h.size,λj a=>(Lib.iterAt_other v k j S p aa).trans (h.block j a)⟩
theorem UG {l:Bs}{i d:Nat}(h:Lib.NoAny l [35,46,91] i)(g:∀k x,i<=k->k<i+d->l[k]? =some x->128<=x.toNat):Lib.NoAny l [35,46,91] (i+d):=λj b m f=>by
 by_cases a:j<i
 .exact h j b a f
 .have n:=g j b aa m f;rw[any_mk];unfold Yp;have e:∀c:UInt8,c.toNat<128->(b==c)=false:=λc o=>by grind
  rw[e 35 aC,e 46 aC,e 91 aC];rfl
theorem Hz (s:aO)(w:ai)(h8:s.size<=8):
  aL 227 #[au s,au ⟨#[35,46,91]⟩] w λe w'=>e=ay (ag (Lib.indexAny s.data.toList [35,46,91]))/\aD w w':=by
 have L:decide ((8:Int)<(s.size:Int))=false:=iU aa;go_enter func227,ntmps227;go_wp2_with(go_at_call 287;refine(Tryz.strings_shouldUseASCIISet _ _).mono ?_;rintro e w' ⟨rfl,hw⟩;rw[hw,L]);obtain⟨l,M⟩:∃l,w.heap.size=l:=⟨_,rfl⟩;have A:(w.alloc (.stringIter s 0)).heap[w.heap.size]? =some (.stringIter s 0):=by
  show(w.heap.push (.stringIter s 0))[w.heap.size]? =_;exact Array.getElem?_push_size
 have N:aD w (w.alloc (.stringIter s 0)):=(aW _ w).alloc az _;rw[M] at A⊢
 go_loopg [9,10] s.size (λg _ _ W=>∃i:Nat,i+g=s.size/\W.heap[l]? =some (.stringIter s i)/\aD w W/\Lib.NoAny s.data.toList [35,46,91] i)
 case atStart=>exact⟨0,aa,A,N,Lib.NoAny.zero _ _⟩
 case round=>
  obtain⟨i,a4,m,t,B⟩:=hrel;have J:=aF B;clear B;cases gk with
  |zero=>
   obtain rfl:i=s.size:=aa;have f:=λC=>Lib.run_next_end_at (P:=prog) wr l s s.size C m aa;go_wp2;go_ret;exact⟨by rw[Lib.indexAny_none (by rw[<- Lib.size_eq];exact J.out)];rfl,t⟩
  |succ g=>
   have u:i<s.size:=aa;obtain⟨x,v⟩:∃x:UInt8,s[i]'u=x:=⟨_,rfl⟩;have q:s.data.toList[i]? =some x:=by rw[<- v];exact Lib.data_getElem? s i u
   have X:=aF q;by_cases D:x.toNat<128
   .have f:=λC=>Lib.run_next_ascii_at (P:=prog) wr l s i C m u (by rw[v];exact D);rw[v] at f;have a:=Lib.iterAt_heap wr l s i (i+1) m;have j:=uU t l aa s (i+1);obtain⟨U,E⟩:∃U,wr.iterAt l s (i+1)=U:=⟨_,rfl⟩;rw[E] at a j f;have y:=Tryz.strings_IndexRune_ascii ⟨#[35,46,91]⟩ (x.toNat:Int) U aa aa;have n:((x.toNat:Int)).toNat.toUInt8=x:=aI;rw[n] at y;have b:=Lib.contains_iff_indexByte [35,46,91] x;clear v q E n;cases r:([35,46,91]:List UInt8).contains x with
    |false=>
     rw[r] at b;have O:¬((0:Int)<=Lib.indexByte [35,46,91] x):=of_decide_eq_false b.symm;have o:aL 286 #[au ⟨#[35,46,91]⟩,.int .i32 x.toNat] U λe w'=>e=ay (ag (Lib.indexByte [35,46,91] x))/\w'=U:=y;obtain⟨F,p⟩:∃F,Lib.indexByte [35,46,91] x=F:=⟨_,rfl⟩;rw[p] at o O;clear b y p;go_wp2_with(go_at_call 286;refine o.mono ?_;rintro e Y ⟨rfl,h⟩;rw[h];clear h)
     go_roundg g
     case measure=>omega
     case rel=>exact⟨i+1,aa,a,j,J.out.succ X.out r⟩
    |true=>
     rw[r] at b;have Q:(0:Int)<=Lib.indexByte [35,46,91] x:=of_decide_eq_true b.symm;have o:aL 286 #[au ⟨#[35,46,91]⟩,.int .i32 x.toNat] U λe w'=>e=ay (ag (Lib.indexByte [35,46,91] x))/\w'=U:=y;obtain⟨F,p⟩:∃F,Lib.indexByte [35,46,91] x=F:=⟨_,rfl⟩;rw[p] at o Q;clear b y p;go_wp2_with(go_at_call 286;refine o.mono ?_;rintro e Y ⟨rfl,h⟩;rw[h];clear h);go_ret;exact⟨by rw[Lib.indexAny_hit J.out X.out r];rfl,j⟩
   .have f:=λC=>Lib.run_next_any_at (P:=prog) wr l s i C m u;have H:=decode_high s i u (by rw[v];omega);have I:=Ec s i u (by rw[v];omega);have R:=QH s i u;have z:Lib.NoAny s.data.toList [35,46,91] (i+(Utf8.decode s i).2):=UG J.out (λk c h1 h2 S=>by
     by_cases hk:k=i
     .rw[hk,q] at S;cases S;omega
     .obtain⟨d,rfl⟩:∃d,k=i+d:=⟨k-i,aa⟩;have K:=I d aa aa;have Z:=Lib.data_getElem? s (i+d) K.1;rw[S] at Z;rw[fT Z];have h6:=get_at s (i+d) K.1;rw[Nat.add_zero] at h6;rw[h6] at K;exact K.2)
    obtain⟨d,hd⟩:∃d,(Utf8.decode s i).2=d:=⟨_,rfl⟩;obtain⟨T,hr⟩:∃T,(Utf8.decode s i).1=T:=⟨_,rfl⟩;rw[hd] at f H R z;rw[hr] at f H;have V:=aF z;have a:=Lib.iterAt_heap wr l s i (i+d) m;have j:=uU t l aa s (i+d);obtain⟨U,E⟩:∃U,wr.iterAt l s (i+d)=U:=⟨_,rfl⟩;rw[E] at a j f;have y:=Hy (T:Int) aa U;clear v q E hd hr I z;go_wp2_with(go_at_call 286;refine y.mono ?_;rintro e Y ⟨rfl,b2⟩)
    go_roundg (s.size-(i+d))
    case measure=>omega
    case rel=>exact⟨i+d,aa,(b2.block l (eY.1 a).1).trans a,j.trans (b2.mono j.size),V.out⟩
theorem abF:∀w:ai,(zeroValue 368).run prog w=.ok (.agg (Array.replicate 256 (.bool false))) w:=λw=>aA
theorem Nr (s:Bs)(hs:s.length<=1000000)(w:ai):
  aL 227 #[au ⟨s.toArray⟩,au ⟨#[35,46,91]⟩] w λe w'=>e=ay (ag (Lib.indexAny s [35,46,91]))/\aD w w':=by
 by_cases c:s.length<=8
 .exact Hz ⟨s.toArray⟩ w (by rw[gY];exact c)
 .refine(Tryz.strings_IndexAny_long abF ⟨s.toArray⟩ ⟨#[35,46,91]⟩ w aC (by rw[gY];omega) (by rw[gY];omega) aC (λj b d=>?_)).mono λe w' h=>⟨h.1,?_⟩
  .have a:=ic d;simp at a;rcases a with rfl|rfl|rfl<;>decide
  .rw[h.2];exact((aW _ _).alloc az _).alloc aI _
end
section
open Go.RowKit Go.Shelf
set_option maxRecDepth 100000
attribute [local go_sem] Oper.semAt_some
theorem xe (s:Bs)(w:ai):aL 161 #[bV s] w λe w'=>e=ay (.func (.func 226) #[] #[aK w.heap.size])/\w'=w.alloc (ak #[bV s] 9):=by
 go_enter func161,ntmps161;go_wp2;go_ret;exact⟨rfl,rfl⟩
abbrev PtB:={x:UInt8×Bs//x.2.length<=1000000}
abbrev zC (l:List PtB):List (UInt8×Bs):=l.map Subtype.val
abbrev ptV (x:PtB):Array ax:=#[.int .u8 x.1.1.toNat,bV x.1.2]
theorem Cw (s:Bs)(hs:s.length<=1000000)(n:Nat)(B:Nat)(w0:ai)(hB:w0.heap[B]? =some (ak #[bV s] 9)):
  SeqStopsK Fence.wide n prog 226 #[aK B] ptV (wm B) (λxs=>zC xs=pts 0 s) (λp=>zC p<+:pts 0 s) (pts 0 s).length w0:=by
 intro l J Jx W hW hJ a5 hY h0;have T:B<w0.heap.size:=(eY.1 hB).1;have H:W.heap[B]? =some (ak #[bV s] 9):=(hW.block B T).trans hB;have c0:W.cell? (aJ B 0)=some (bV s):=by simp[World.cell?,H]
 have j:∀p A C,J p A->aD A C->J p C:=λp A C h hb=>hJ p A C none h (wZ hb) (λr e=>by cases e);refine callsIn_of_wp func226 rfl trivial ?_ rfl;simp only[ntmps226,jw,eZ,iT,Nat.reduceAdd,Nat.reduceSub,jV,jU,jX,jW,gK,gH]
 gi_wp2
 gi_region
 gi_wp2
 gi_loopw [3,4] (λy3 U wr=>∃(pre:List PtB) (k:UInt8) (t:Bs),t.length<=1000000/\zC pre++pts k t=pts 0 s/\y3=.int .u8 k.toNat/\U=bV t/\J pre wr/\wm B W wr) (λ_ U _=>QG U)
 case atStart=>exact⟨[],0,s,hs,rfl,rfl,rfl,j _ _ _ h0 (aW _ _).drew,rfl⟩
 case round=>
  obtain⟨pre,k,t,y,c,rfl,rfl,I,K⟩:=hrel;have S:=Nr t y wr;cases z:iL t with
  |none=>
   rw[any_none z] at S;rw[a1j z] at c;have D:pre.length<(pts 0 s).length:=by
    rw[<- c,dO,eZ,dP];omega
   have b:(qP k t).length<=1000000:=bO (OJ k t) y;have o:=aF c;have d:∀V,aL 228 #[.int .u8 k.toNat,bV t] V λe X=>e=ay (bV (qP k t))/\X=V:=λV=>Hw k t y V;have f:∀g,J pre g->YieldAt Fence.wide (n-1) prog l #[.int .u8 k.toNat,bV (qP k t)] g λe E=>(e=ay (.bool true)/\J (pre++[⟨(k,qP k t),b⟩]) E/\wm B g E)\/(e=ay (.bool false)/\Jx (pre++[⟨(k,qP k t),b⟩]) E):=λg h=>hY pre ⟨(k,qP k t),b⟩ g h D;revert b o d f;generalize qP k t=nm;intro b o d f;clear c z
   gi_wp2_with (first|(refine⟨trivial,(λh=>by cases h),?_⟩;gi_at_call 227;refine(dM.2 S).mono ?_;rintro e Y ⟨rfl,q⟩)|(refine⟨trivial,(λh=>by cases h),?_⟩;gi_at_call 228;refine(dM.2 (d _)).mono ?_;rintro e w2 ⟨rfl,h⟩;rw[h];clear h;obtain⟨fn,L,u,M,hy,Z⟩:=f Y (j _ _ _ I q)))
   refine⟨(λh=>by cases h),Z.mono ?_⟩;rintro e W3 (⟨rfl,F,N⟩|⟨rfl,i⟩)
   .gi_wp2
    refine bg (results_none rfl _ _ _) rfl ?_;exact⟨⟨_,rfl⟩,.inl ⟨_,by rw[<- o.out];simp,F⟩⟩
   .gi_wp2
    refine bg (results_none rfl _ _ _) rfl ?_;exact⟨⟨_,rfl⟩,.inr ⟨_,by rw[<- o.out];simp,i⟩⟩
  |some x=>
   obtain⟨a,m,r⟩:=x;rw[any_some z] at S;rw[OI z] at c;have D:pre.length<(pts 0 s).length:=by
    rw[<- c,dO,eZ,dP];omega
   obtain⟨O, -, -⟩:=uF z;have P:t.length=a.length+(r.length+1):=by rw[O];simp
   have Q:a.length<=1000000:=aa;have v:(⟨t.toArray⟩:aO).size=t.length:=gY t;have a6:(a.length:Int)<=((⟨t.toArray⟩:aO).size:Int):=by rw[v];omega
   have a7:(a.length:Int)<((⟨t.toArray⟩:aO).size:Int):=by rw[v];omega
   have a4:a.length<(⟨t.toArray⟩:aO).size:=by rw[v];omega
   have a8:(⟨t.toArray⟩:aO)[a.length]'a4=m:=by
    subst O;simp[ByteArray.getElem_eq_getElem_data]
   have a9:¬(a.length:Int)<0:=aa;obtain⟨w,b0⟩:∃w:Nat,(a.length:Int)+1=w:=⟨a.length+1,aa⟩;have b1:(a.length:Int)<(t.length:Int):=aa;have b2:(w:Int)<=(t.length:Int):=aa;have b3:IntKind.i64.wrap (w:Int)=(w:Int):=IntWalk.i64_in _ aa;have R:Hid ((⟨t.toArray⟩:aO).extract w t.length=⟨r.toArray⟩):=(by
    rw[show w=a.length+1 from by omega,O];exact Xo a r m _ rfl:(⟨t.toArray⟩:aO).extract w t.length=⟨r.toArray⟩)
   have d:∀V,aL 228 #[.int .u8 k.toNat,au ((⟨t.toArray⟩:aO).extract 0 a.length)] V λe X=>e=ay (bV (qP k a))/\X=V:=λV=>by
    rw[show(⟨t.toArray⟩:aO).extract 0 a.length=⟨a.toArray⟩ from by rw[O];exact Np a (m::r)];exact Hw k a Q V
   have b:(qP k a).length<=1000000:=bO (OJ k a) Q;have f:∀g,J pre g->YieldAt Fence.wide (n-1) prog l #[.int .u8 k.toNat,bV (qP k a)] g λe E=>(e=ay (.bool true)/\J (pre++[⟨(k,qP k a),b⟩]) E/\wm B g E)\/(e=ay (.bool false)/\Jx (pre++[⟨(k,qP k a),b⟩]) E):=λg h=>hY pre ⟨(k,qP k a),b⟩ g h D;have o:=aF c;have QJ:Hid (r.length<t.length):=(by omega:r.length<t.length);revert b o d f;generalize qP k a=nm;intro d b f o;clear c z O P v
   gi_wp2_with (first|(refine⟨trivial,(λh=>by cases h),?_⟩;gi_at_call 227;refine(dM.2 S).mono ?_;rintro e Y ⟨rfl,q⟩)|(refine⟨trivial,(λh=>by cases h),?_⟩;gi_at_call 228;refine(dM.2 (d _)).mono ?_;rintro e w2 ⟨rfl,h⟩;rw[h];clear h;obtain⟨fn,L,u,M,hy,Z⟩:=f Y (j _ _ _ I q)))
   refine⟨(λh=>by cases h),Z.mono ?_⟩;rintro e W3 (⟨rfl,F,N⟩|⟨rfl,i⟩)
   .gi_wp2
    gi_region
    gi_wp2
    go_roundw
    case rel=>exact⟨pre++[⟨(k,nm),b⟩],m,r,by have:=QJ.out;omega,by rw[<- o.out];simp,by first|rfl|simp,by rw[R.out],j _ _ _ F (aW _ _).drew,(K.trans (wm.of_below q (eY.1 (Eq.trans (show wr.heap[B]? =W.heap[B]? from K) H)).1)).trans N⟩
    case measure=>
     rw[R.out,Cv,Cv];exact QJ.out
   .gi_wp2
    refine bg (results_none rfl _ _ _) rfl ?_;exact⟨⟨_,rfl⟩,.inr ⟨_,by rw[<- o.out];exact⟨pts m r,aI⟩,i⟩⟩
end
section
open Go.RowKit Go.Shelf
set_option maxRecDepth 100000
attribute [local go_sem] Oper.semAt_some
def sJ:List (UInt8×Bs)->Nat
 |[]=>0
 |x::l=>(if x.1=0 then 0 else 1)+sJ l
theorem I4 (a b:List (UInt8×Bs)):sJ (a++b)=sJ a+sJ b:=by
 induction a with
 |nil=>simp[sJ]
 |cons x l c=>rw[gH,sJ,sJ,c];omega
theorem Xp:∀l:List (UInt8×Bs),sJ l<=l.length
 |[]=>bJ _
 |x::l=>by
  have:=Xp l;rw[sJ,eZ];split<;>omega
theorem Fu:∀(f:Nat) (k:UInt8) (s:Bs),s.length<=f->(pts k s).length<=s.length+1
 |f,k,s,c=>by
  cases b:iL s with
  |none=>rw[a1j b];simp
  |some x=>
   obtain⟨a,m,r⟩:=x;have d:=wC b;rw[OI b,eZ];have:=Fu (f-1) m r aa;omega
termination_by _ _ s=>s.length
def Ns (l:List (UInt8×Bs)):Prop:=∀rest,Dv 0 (l++rest)=Dv (sJ l) rest
theorem Ns.nil:Ns []:=λ_=>rfl
theorem Ns.snoc {l:List (UInt8×Bs)}{x:UInt8×Bs}(h:Ns l)(a:(if x.1=0 then sJ l else sJ l+1)<=8)(b:TZ x=true):Ns (l++[x]):=λrest=>by
 rw[lF,h,List.singleton_append,Dv,b,decide_eq_true a,I4];simp only[Bool.true_and];congr 1;unfold sJ sJ;split<;>omega
theorem Ns.bad {l:List (UInt8×Bs)}{x:UInt8×Bs}(h:Ns l)(a:¬((if x.1=0 then sJ l else sJ l+1)<=8)\/TZ x=false)(rest:List (UInt8×Bs)):Dv 0 (l++[x]++rest)=false:=by
 rw[lF,h,List.singleton_append,Dv];grind
theorem jL (W:ai)(a b c:Obj):(((W.alloc a).alloc b).alloc c).heap[W.heap.size]? =some a/\(((W.alloc a).alloc b).alloc c).heap[W.heap.size+1]? =some b/\(((W.alloc a).alloc b).alloc c).heap[W.heap.size+1+1]? =some c/\(((W.alloc a).alloc b).alloc c).heap.size=W.heap.size+3/\aD W (((W.alloc a).alloc b).alloc c):=by
 have e:(W.alloc a).heap.size=W.heap.size+1:=dV W a;have d:((W.alloc a).alloc b).heap.size=W.heap.size+1+1:=by rw[dV,e]
 have h:=fE W a;have f:=fE (W.alloc a) b;have g:=fE ((W.alloc a).alloc b) c;rw[e] at f;rw[d] at g;refine⟨(Below.heap_alloc _ _ _ (by rw[d];omega)).trans ((Below.heap_alloc _ _ _ (by rw[e];omega)).trans h),(Below.heap_alloc _ _ _ (by rw[d];omega)).trans f,g,by rw[dV,d],?_⟩;exact(((aW W.heap.size W).alloc az _).alloc (by rw[e];omega) _).alloc (by rw[d];omega) _
theorem kH {a:Option Nat}{U k:Nat}{o:Obj}(h:A.heap[k]? =some o)(d:k<U)(b:A.grownBy C a)(c:∀r,a=some r->U<=r/\∃o:Obj,A.heap[r]? =some o/\o.isCells=false):C.heap[k]? =some o:=
 (b.block k (eY.1 h).1 (λe=>by have:=(c k e.symm).1;omega)).trans h
theorem rX {V:ai}{a:Option Nat}{U:Nat}(h:aD V A)(f:V.heap.size<=U)(b:A.grownBy C a)(d:∀r,a=some r->U<=r/\∃o:Obj,A.heap[r]? =some o/\o.isCells=false):aD V C:=
 ⟨b.os.trans h.os,b.tape.trans h.tape,b.output.trans h.output,bO h.size b.size,λk c=>(b.block k (fK c h.size) (λe=>by have:=(d k e.symm).1;omega)).trans (h.block k c)⟩
theorem dK {b:Nat}(h:w.heap[b]? =some (ak #[v] t)):w.cell? (aJ b 0)=some v:=by simp[World.cell?,h]
theorem jf {b:Nat}(h:w.heap[b]? =some (ak #[v] t)):w.frozen? ⟨b,0,none⟩=false:=by
 unfold World.frozen?;rw[h];simp
theorem jM {b:Nat}(h:w.heap[b]? =some (ak #[v] t))(u:ax):(w.setCell ⟨b,0,none⟩ u).heap[b]? =some (ak #[u] t):=by
 rw[heap_setCell_same w b 0 _ _ _ h];rfl
theorem Zi (s:Bs)(hs:s.length<=1000000)(W:ai):CallsIn Fence.wide 9 prog 99 #[bV s] W λe w'=>e=ay (.bool (yF s))/\aD W w':=by
 obtain⟨H,I,J,L,b0⟩:=jL W (ak #[.bool false] 4) (ak #[ag 0] 3) (ak #[bV s] 9);refine callsIn_of_wp_marks func99 rfl trivial ?_ rfl;simp only[ntmps99,jw,eZ,iT,Nat.reduceAdd,Nat.reduceSub,jV,jU,jX,jW,gK,gH]
 gi_wp2_with (refine⟨trivial,?_⟩;gi_at_call 161;refine(dM.2 (xe s _)).mono ?_;rintro e w1 ⟨rfl,g⟩;rw[g];clear g)
 obtain⟨U,hU⟩:∃U,(((W.alloc (ak #[.bool false] 4)).alloc (ak #[ag 0] 3)).alloc (ak #[bV s] 9))=U:=⟨_,rfl⟩;rw[hU] at b0 H I J L⊢;clear hU;refine wpIn_rangeFunc_ownF rfl aa (gf:=226) (lb:=#[.pointer (some ⟨W.heap.size+1+1,0,none⟩)]) rfl trivial (enters_of func226 aA rfl)
  (encs:=ptV) (Kp:=wm (W.heap.size+1+1)) (S:=λxs=>zC xs=pts 0 s) (Sp:=λp=>zC p<+:pts 0 s) (N:=(pts 0 s).length) (w0:=U)
  (Cw s hs _ _ U J) wm.trans (λX l o o' hl g h2 h3=>wm.put (w:=U) aa X l o o' hl g h2 h3) (aW _ _) (λ_=>rfl)
  (λpre X=>X.heap[W.heap.size+1]? =some (ak #[ag (sJ (zC pre):Nat)] 3)/\X.heap[W.heap.size]? =some (ak #[.bool false] 4)/\aD W X/\Ns (zC pre))
  (λc pre X=>c=.ret/\(∀rest,Dv 0 (zC pre++rest)=false)/\X.heap[W.heap.size]? =some (ak #[.bool false] 4)/\aD W X)
  (λpre A C Y hs B a=>⟨kH hs.1 aa B a,kH hs.2.1 aa B a,rX hs.2.2.1 aa B a,hs.2.2.2⟩)
  (λc pre A C Y hs B a=>⟨hs.1,hs.2.1,kH hs.2.2.1 aa B a,rX hs.2.2.2 aa B a⟩)
  ⟨I,H,b0,Ns.nil⟩
  (λx=>{tmps:=#[bV s,undef,aK W.heap.size,.pointer (some ⟨W.heap.size+1,0,none⟩),.int .u8 x.1.1.toNat,bV x.1.2,bV s,.func (.func 226) #[] #[.pointer (some ⟨W.heap.size+1+1,0,none⟩)],.int .u8 x.1.1.toNat,bV x.1.2,undef,undef,undef,undef,undef,undef,undef,undef,undef,undef,undef,undef,undef,undef],defers:=[]})
  ?assign ?body ?done ?stop
 case assign=>
  intro l x X K E
  gi_wp2
  exact E
 case body=>
  rintro l pre x X ⟨F,a,j,b⟩ a8;obtain⟨⟨k,M⟩,O⟩:=x;have c1:=dK F;have f1:=jf F;have c2:=dK a;have f2:=jf a;have Z:sJ (zC pre)<=1000001:=by
   have g:=Xp (zC pre);have h2:=Fu s.length 0 s az;rw[dP] at g;omega
  have d:zC (pre++[⟨(k,M),O⟩])=zC pre++[(k,M)]:=aI;have m:=λV=>UF k M O V;have h0:((k.toNat:Int)==0)=(k==0):=Be k 0;have P:((k.toNat:Int) !=0)= !(k==0):=by rw[bne,h0]
  obtain⟨c,n⟩:∃c,sJ (zC pre)=c:=⟨_,rfl⟩;rw[n] at c1 F Z;have f:=aF n;clear n h0;have a4:¬W.heap.size=W.heap.size+1:=aa;by_cases q:k=0
  .have r:(k==0)=true:=by rw[q];rfl
   rw[r] at P;have HK:=aF q;clear q;by_cases h8:8<c
   .have t:8<(c:Int):=aa
    gi_wp2
    refine⟨trivial,?_⟩
    gi_wp2
    exact⟨gT _ _ _,rfl,λrest=>by rw[d];exact b.bad (.inl (by rw[aR HK.out,f.out];omega)) rest,jM a _,j.setCell az _⟩
   .have t:¬8<(c:Int):=aa;cases i:TZ (k,M) with
    |true=>
     rw[i] at m
     gi_wp2_with (refine⟨trivial,?_⟩;gi_at_call 162;refine(CallsIn.inRound l (dM.2 (m _))).mono ?_;rintro e w2 ⟨rfl,h⟩;rw[h];clear h)
     exact⟨KeepsOthers.refl _,rfl,by rw[d,I4,f.out];simp only[sJ,aR HK.out];exact F,a,j,by rw[d];exact b.snoc (by rw[aR HK.out,f.out];omega) i⟩
    |false=>
     rw[i] at m
     gi_wp2_with (refine⟨trivial,?_⟩;gi_at_call 162;refine(CallsIn.inRound l (dM.2 (m _))).mono ?_;rintro e w2 ⟨rfl,h⟩;rw[h];clear h)
     exact⟨gT _ _ _,rfl,λrest=>by rw[d];exact b.bad (.inr i) rest,jM a _,j.setCell az _⟩
  .have r:(k==0)=false:=by rw[dW];exact q
   rw[r] at P;have a5:=jM F (ag ((c:Int)+1));have u:(X.setCell ⟨W.heap.size+1,0,none⟩ (ag ((c:Int)+1))).heap[W.heap.size]? =some (ak #[.bool false] 4):=(dw _ _ _ W.heap.size (λe=>a4 e)).trans a;have v:aD W (X.setCell ⟨W.heap.size+1,0,none⟩ (ag ((c:Int)+1))):=j.setCell fZ _;have a6:wm (W.heap.size+1+1) X (X.setCell ⟨W.heap.size+1,0,none⟩ (ag ((c:Int)+1))):=dw _ _ _ _ fZ;by_cases h8:8<c+1
   .have t:8<(c:Int)+1:=aa
    gi_wp2
    refine⟨trivial,?_⟩
    gi_wp2
    exact⟨(gT _ _ _).trans (gT _ _ _),rfl,λrest=>by rw[d];exact b.bad (.inl (by rw[aG q,f.out];omega)) rest,jM u _,v.setCell az _⟩
   .have t:¬8<(c:Int)+1:=aa;cases i:TZ (k,M) with
    |true=>
     rw[i] at m
     gi_wp2_with (refine⟨trivial,?_⟩;gi_at_call 162;refine(CallsIn.inRound l (dM.2 (m _))).mono ?_;rintro e w2 ⟨rfl,h⟩;rw[h];clear h)
     exact⟨gT _ _ _,a6,by rw[d,I4,f.out];simp only[sJ,aG q];exact a5,u,v,by rw[d];exact b.snoc (by rw[aG q,f.out];omega) i⟩
    |false=>
     rw[i] at m
     gi_wp2_with (refine⟨trivial,?_⟩;gi_at_call 162;refine(CallsIn.inRound l (dM.2 (m _))).mono ?_;rintro e w2 ⟨rfl,h⟩;rw[h];clear h)
     exact⟨(gT _ _ _).trans (gT _ _ _),rfl,λrest=>by rw[d];exact b.bad (.inr i) rest,jM u _,v.setCell az _⟩
 case done=>
  rintro D xs X hD hS ⟨F,a,j,b⟩ E;have hv:yF s= !s.isEmpty:=by
   have g:=b [];rw[hS,List.append_nil] at g;unfold yF;rw[show vH s=pts 0 s from rfl,g];cases s<;>rfl
  have c2:=dK a;have f2:=jf a
  gi_wp2
  have Q:=(gT X ⟨W.heap.size,0,none⟩ (.bool !s.isEmpty)).same D _ E rfl;refine⟨aI,.inl ⟨_,_,rfl,run_takeDeferred Q,?_⟩⟩;have a7:=jM a (.bool !s.isEmpty);have y:=(nZ (w:=X.setCell ⟨W.heap.size,0,none⟩ (.bool !s.isEmpty)) (o:=.deferred none) (show W.heap.size≠D by omega)).trans a7;have oc:=dK y;refine⟨.bool !s.isEmpty,?_,by rw[hv],(j.setCell az _).trans (belowK_b (w:=W) az _ D _ _ aa Q rfl rfl)⟩;simp[results,results99,go_sem,oc]
 case stop=>
  rintro D c pre X hD R ⟨rfl,T,a,j⟩ E;have hv:yF s=false:=by
   obtain⟨rest,z⟩:=R;have g:=T rest;rw[z] at g;unfold yF;rw[show vH s=pts 0 s from rfl,g];rfl
  gi_wp2
  refine⟨aI,.inl ⟨_,_,rfl,run_takeDeferred E,?_⟩⟩;have y:=(nZ (w:=X) (o:=.deferred none) (show W.heap.size≠D by omega)).trans a;have oc:=dK y;refine⟨.bool false,?_,by rw[hv],j.trans (belowK_b (w:=W) az X D _ _ aa E rfl rfl)⟩;simp[results,results99,go_sem,oc]
theorem UH (s:Bs)(hs:s.length<=1000000)(W:ai):aL 99 #[bV s] W λe w'=>e=ay (.bool (yF s))/\aD W w':=dM.1 (Zi s hs W)
end
section
open Go.RowKit Go.Shelf
set_option maxRecDepth 100000
attribute [local go_sem] Oper.semAt_some
theorem Ee (W:ai)(a b c d:Obj):((((W.alloc a).alloc b).alloc c).alloc d).heap[W.heap.size]? =some a/\((((W.alloc a).alloc b).alloc c).alloc d).heap[W.heap.size+1]? =some b/\((((W.alloc a).alloc b).alloc c).alloc d).heap[W.heap.size+1+1]? =some c/\((((W.alloc a).alloc b).alloc c).alloc d).heap[W.heap.size+1+1+1]? =some d/\((((W.alloc a).alloc b).alloc c).alloc d).heap.size=W.heap.size+4/\aD W ((((W.alloc a).alloc b).alloc c).alloc d):=by
 obtain⟨f,g,h,i,j⟩:=jL (W.alloc a) b c d;have e:(W.alloc a).heap.size=W.heap.size+1:=dV W a;rw[e] at f g h i;have k:=fE W a;refine⟨(j.block _ (by rw[e];omega)).trans k,f,g,h,i,?_⟩;exact((aW W.heap.size W).alloc az _).trans (j.mono (by rw[e];omega))
theorem xU (h:aD A C):KeepsOthers A C:=⟨h.size,λl _ a _=>(h.block l (eY.1 a).1).trans a⟩
theorem gZ (h:aD A C){k:Nat}{o:Obj}(a:A.heap[k]? =some o):C.heap[k]? =some o:=(h.block k (eY.1 a).1).trans a
def OkS (l:List Bs):Prop:=∀rest,Dw 0 (l++rest)=Dw l.length rest
theorem OkS.nil:OkS []:=λ_=>rfl
theorem OkS.snoc {l:List Bs}{x:Bs}(h:OkS l)(a:l.length+1<=5)(b:yF x=true):OkS (l++[x]):=λrest=>by
 rw[lF,h,List.singleton_append,Dw,b,decide_eq_true a,dO,List.length_singleton];grind
theorem OkS.bad {l:List Bs}{x:Bs}(h:OkS l)(a:¬l.length+1<=5\/yF x=false)(rest:List Bs):Dw 0 (l++[x]++rest)=false:=by
 rw[lF,h,List.singleton_append,Dw];grind
theorem qg:∀(f:Nat) (s:Bs),(sj f s).length<=f
 |0,_=>bJ _
 |f+1,s=>by
  rw[sj];obtain⟨a,k,b,c⟩:∃a k b,vQ s=(a,k,b):=⟨_,_,_,rfl⟩;rw[c];cases k with
  |no=>simp
  |right=>have:=qg f a;simp only[eZ];omega
  |below=>have:=qg f a;simp only[eZ];omega
theorem Xq {W Z:ai}{er:ax}(c:Z.heap[W.heap.size]? =some (ak #[au ⟨#[]⟩] 105))(d:Z.heap[W.heap.size+1]? =some (ak #[aY] 25))(e:aD W Z):
  KeepsOthers Z ((Z.setCell ⟨W.heap.size,0,none⟩ (au ⟨#[]⟩)).setCell ⟨W.heap.size+1,0,none⟩ er).drew/\((Z.setCell ⟨W.heap.size,0,none⟩ (au ⟨#[]⟩)).setCell ⟨W.heap.size+1,0,none⟩ er).drew.heap[W.heap.size]? =some (ak #[au ⟨#[]⟩] 105)/\((Z.setCell ⟨W.heap.size,0,none⟩ (au ⟨#[]⟩)).setCell ⟨W.heap.size+1,0,none⟩ er).drew.heap[W.heap.size+1]? =some (ak #[er] 25)/\aD W ((Z.setCell ⟨W.heap.size,0,none⟩ (au ⟨#[]⟩)).setCell ⟨W.heap.size+1,0,none⟩ er).drew:=by
 have a:=jM c (au ⟨#[]⟩);have b:(Z.setCell ⟨W.heap.size,0,none⟩ (au ⟨#[]⟩)).heap[W.heap.size+1]? =some (ak #[aY] 25):=(dw _ _ _ _ fZ).trans d;refine⟨((gT _ _ _).trans (gT _ _ _)).trans (KeepsOthers.drew _),?_,?_,?_⟩
 .exact(dw _ _ _ _ fZ).trans a
 .exact jM b er
 .exact((e.setCell (p:=⟨W.heap.size,0,none⟩) az _).setCell (p:=⟨W.heap.size+1,0,none⟩) fZ _).drew
theorem a2L (s:Bs)(hs:s.length<=1000000)(W:ai)(ea:Addr)(rv:Array ax)(n:su s=true->rv=#[.agg #[bV s],aY])(q:su s=false->rv=#[.agg #[au ⟨#[]⟩],aU 453 (.pointer (some ea))])(hE:W.cell? (aJ 1 0)=some (aU 453 (.pointer (some ea)))):
  CallsIn Fence.wide 9 prog 53 #[bV s] W λe w'=>e=ay (aH rv)/\aD W w':=by
 obtain⟨F,H,I,J,L,b0⟩:=Ee W (ak #[au ⟨#[]⟩] 105) (ak #[aY] 25) (ak #[.int .i64 0] 3) (ak #[bV s] 9);have i:=aM hE;simp only at i;refine callsIn_of_wp_marks func53 rfl trivial ?_ rfl;simp only[ntmps53,jw,eZ,iT,Nat.reduceAdd,Nat.reduceSub,jV,jU,jX,jW,gK,gH]
 gi_wp2_with (refine⟨trivial,?_⟩;gi_at_call 98;refine(dM.2 (Ea s _)).mono ?_;rintro e w1 ⟨rfl,k⟩;rw[k];clear k)
 obtain⟨U,hU⟩:∃U,((((W.alloc (ak #[au ⟨#[]⟩] 105)).alloc (ak #[aY] 25)).alloc (ak #[.int .i64 0] 3)).alloc (ak #[bV s] 9))=U:=⟨_,rfl⟩;rw[hU] at b0 F H I J L⊢;clear hU;refine wpIn_rangeFunc_ownF rfl aa (gf:=159) (lb:=#[.pointer (some ⟨W.heap.size+1+1+1,0,none⟩)]) rfl trivial (enters_of func159 aA rfl)
  (encs:=λx:StB=>#[bV x.1]) (Kp:=wm (W.heap.size+1+1+1)) (S:=λxs=>Lr xs=jG s) (Sp:=λp=>Lr p<+:jG s) (N:=(jG s).length) (w0:=U)
  (Ls s hs _ _ U J) wm.trans (λX l o o' hl k h2 h3=>wm.put (w:=U) aa X l o o' hl k h2 h3) (aW _ _) (λ_=>rfl)
  (λpre X=>X.heap[W.heap.size+1+1]? =some (ak #[.int .i64 (pre.length:Nat)] 3)/\X.heap[W.heap.size]? =some (ak #[au ⟨#[]⟩] 105)/\X.heap[W.heap.size+1]? =some (ak #[aY] 25)/\aD W X/\OkS (Lr pre)/\U.heap.size<=X.heap.size)
  (λc pre X=>c=.ret/\(∀rest,Dw 0 (Lr pre++rest)=false)/\X.heap[W.heap.size]? =some (ak #[au ⟨#[]⟩] 105)/\X.heap[W.heap.size+1]? =some (ak #[aU 453 (.pointer (some ea))] 25)/\aD W X)
  (λpre A C a7 hs i h=>⟨kH hs.1 aa i h,kH hs.2.1 aa i h,kH hs.2.2.1 aa i h,rX hs.2.2.2.1 aa i h,hs.2.2.2.2.1,bO hs.2.2.2.2.2 i.size⟩)
  (λc pre A C a7 hs i h=>⟨hs.1,hs.2.1,kH hs.2.2.1 aa i h,kH hs.2.2.2.1 aa i h,rX hs.2.2.2.2 aa i h⟩)
  ⟨I,F,H,b0,OkS.nil,bJ _⟩
  (λx=>{tmps:=#[bV s,undef,aK W.heap.size,.pointer (some ⟨W.heap.size+1,0,none⟩),.pointer (some ⟨W.heap.size+1+1,0,none⟩),bV x.1,bV s,.func (.func 159) #[] #[.pointer (some ⟨W.heap.size+1+1+1,0,none⟩)],bV x.1,undef,undef,undef,undef,undef,undef,undef,undef,undef,undef,undef,undef,undef],defers:=[]})
  ?assign ?body ?done ?stop
 case assign=>
  intro l x X K E
  gi_wp2
  exact E
 case body=>
  rintro l pre x X ⟨M,h,r,O,j,hu⟩ P;obtain⟨st,t⟩:=x;have c1:=dK M;have f1:=jf M;have a8:pre.length<=1000001:=by
   have:=qg (s.length+1) s;unfold jG at P;omega
  have u:Lr (pre++[⟨st,t⟩])=Lr pre++[st]:=aI;have Q:(Lr pre).length=pre.length:=dP _;have R:(pre++[(⟨st,t⟩:StB)]).length=pre.length+1:=aI;have IS:=λV=>UH st t V;have T:=aF Q;have a9:=aF R;obtain⟨c,v⟩:∃c,pre.length=c:=⟨_,rfl⟩;rw[v] at c1 M a8;have y:=aF v;clear v Q R;have z:=jM M (.int .i64 ((c:Int)+1));have a:(X.setCell ⟨W.heap.size+1+1,0,none⟩ (.int .i64 ((c:Int)+1))).heap[W.heap.size]? =some (ak #[au ⟨#[]⟩] 105):=(dw _ _ _ _ fZ).trans h;have b:(X.setCell ⟨W.heap.size+1+1,0,none⟩ (.int .i64 ((c:Int)+1))).heap[W.heap.size+1]? =some (ak #[aY] 25):=(dw _ _ _ _ fZ).trans r;have d:aD W (X.setCell ⟨W.heap.size+1+1,0,none⟩ (.int .i64 ((c:Int)+1))):=O.setCell fZ _;have Y:wm (W.heap.size+1+1+1) X (X.setCell ⟨W.heap.size+1+1,0,none⟩ (.int .i64 ((c:Int)+1))):=dw _ _ _ _ fZ;have b1:X.heap.size<=(X.setCell ⟨W.heap.size+1+1,0,none⟩ (.int .i64 ((c:Int)+1))).heap.size:=((aW 0 X).setCell (bA _) _).size;have m:=gT X ⟨W.heap.size+1+1,0,none⟩ (.int .i64 ((c:Int)+1));have b3:(X.setCell ⟨W.heap.size+1+1,0,none⟩ (.int .i64 ((c:Int)+1))).cell? ⟨W.heap.size+1+1,0,none⟩=some (.int .i64 ((c:Int)+1)):=dK z;by_cases h5:5<c+1
  .have b4:5<(c:Int)+1:=aa
   gi_wp2
   refine⟨trivial,?_⟩;obtain⟨X1,Z⟩:∃X1,X.setCell ⟨W.heap.size+1+1,0,none⟩ (.int .i64 ((c:Int)+1))=X1:=⟨_,rfl⟩;rw[Z] at z a b d Y m b3⊢;clear Z;have cR:=dK a;have fR:=jf a;have cQ:=dK b;have fQ:=jf b;have cG:=(d.cell i).trans hE;have b5:¬W.heap.size=W.heap.size+1:=aa;have b6:¬W.heap.size+1=W.heap.size:=aa
   gi_wp2
   have f:=Xq (er:=aU 453 (.pointer (some ea))) a b d
   gi_region
   all_goals gi_wp2
   all_goals exact⟨m.trans f.1,rfl,λrest=>by rw[u];exact j.bad (.inl (by rw[T.out,y.out];omega)) rest,f.2.1,f.2.2.1,f.2.2.2⟩
  .have b4:¬5<(c:Int)+1:=aa;cases hp:yF st with
   |true=>
    rw[hp] at IS
    gi_wp2_with (refine⟨trivial,?_⟩;gi_at_call 99;refine(CallsIn.inRound l (dM.2 (IS _))).mono ?_;rintro e w2 ⟨rfl,g⟩)
    have b7:=gZ g z;exact⟨m.trans (xU g),Y.trans (g.block _ aa),by rw[a9.out,y.out];exact b7,gZ g a,gZ g b,d.trans (g.mono d.size),by rw[u];exact j.snoc (by rw[T.out,y.out];omega) hp,bO hu (bO b1 g.size)⟩
   |false=>
    rw[hp] at IS
    gi_wp2_with (refine⟨trivial,?_⟩;gi_at_call 99;refine(CallsIn.inRound l (dM.2 (IS _))).mono ?_;rintro e w2 ⟨rfl,g⟩;have cR:=dK (gZ g a);have fR:=jf (gZ g a);have cQ:=dK (gZ g b);have fQ:=jf (gZ g b);have cG:=((d.trans (g.mono d.size)).cell i).trans hE)
    have f:=Xq (er:=aU 453 (.pointer (some ea))) (gZ g a) (gZ g b) (d.trans (g.mono d.size))
    gi_region
    all_goals gi_wp2
    all_goals exact⟨(m.trans (xU g)).trans f.1,rfl,λrest=>by rw[u];exact j.bad (.inr hp) rest,f.2.1,f.2.2.1,f.2.2.2⟩
 case done=>
  rintro D xs X hD hS ⟨M,h,r,O,j, -⟩ E;have hv:su s=true:=by
   have k:=j [];rw[hS,List.append_nil] at k;exact k
  have Zj:=n hv;clear n q hv;subst Zj;have c1:=dK h;have f1:=jf h;have c2:=dK r;have f2:=jf r;have b5:¬W.heap.size=W.heap.size+1:=aa;have b6:¬W.heap.size+1=W.heap.size:=aa
  gi_wp2
  have a4:=((gT X ⟨W.heap.size,0,none⟩ (bV s)).trans (gT _ ⟨W.heap.size+1,0,none⟩ aY)).same D _ E rfl;refine⟨aI,.inl ⟨_,_,rfl,run_takeDeferred a4,?_⟩⟩;have a:=jM h (bV s);have b8:((X.setCell ⟨W.heap.size,0,none⟩ (bV s)).setCell ⟨W.heap.size+1,0,none⟩ aY).heap[W.heap.size]? =some (ak #[bV s] 105):=(dw _ _ _ _ fZ).trans a;have b:(X.setCell ⟨W.heap.size,0,none⟩ (bV s)).heap[W.heap.size+1]? =some (ak #[aY] 25):=(dw _ _ _ _ fZ).trans r;have b9:=jM b aY;have oc:=dK ((nZ (w:=(X.setCell ⟨W.heap.size,0,none⟩ (bV s)).setCell ⟨W.heap.size+1,0,none⟩ aY) (o:=.deferred none) (show W.heap.size≠D by omega)).trans b8);have oq:=dK ((nZ (w:=(X.setCell ⟨W.heap.size,0,none⟩ (bV s)).setCell ⟨W.heap.size+1,0,none⟩ aY) (o:=.deferred none) (show W.heap.size+1≠D by omega)).trans b9);refine⟨aH #[.agg #[bV s],aY],?_,rfl,((O.setCell (p:=⟨W.heap.size,0,none⟩) az _).setCell (p:=⟨W.heap.size+1,0,none⟩) fZ _).trans (belowK_b (w:=W) az _ D _ _ aa a4 rfl rfl)⟩;simp[results,results53,go_sem,oc,oq]
 case stop=>
  rintro D c pre X hD a5 ⟨rfl,a6,h,r,O⟩ E;have hv:su s=false:=by
   obtain⟨rest,B⟩:=a5;have k:=a6 rest;rw[B] at k;exact k
  have Zj:=q hv;clear n q hv;subst Zj
  gi_wp2
  refine⟨aI,.inl ⟨_,_,rfl,run_takeDeferred E,?_⟩⟩;have c0:=(nZ (w:=X) (o:=.deferred none) (show W.heap.size≠D by omega)).trans h;have c3:=(nZ (w:=X) (o:=.deferred none) (show W.heap.size+1≠D by omega)).trans r;have oc:=dK c0;have oq:=dK c3;refine⟨aH #[.agg #[au ⟨#[]⟩],aU 453 (.pointer (some ea))],?_,rfl,O.trans (belowK_b (w:=W) az X D _ _ aa E rfl rfl)⟩;simp[results,results53,go_sem,oc,oq]
theorem I5 (s:Bs)(hs:s.length<=1000000)(W:ai)(ea:Addr)(hE:W.cell? (aJ 1 0)=some (aU 453 (.pointer (some ea)))):
  aL 53 #[bV s] W λe w'=>e=ay (aH (if su s then #[.agg #[bV s],aY] else #[.agg #[au ⟨#[]⟩],aU 453 (.pointer (some ea))]))/\aD W w':=
 dM.1 (a2L s hs W ea _ (λh=>by rw[h];rfl) (λh=>by rw[h];rfl) hE)
end
open Go.RowKit Go.Shelf
theorem Ef (s:Bs)(w:ai):aL 109 #[bV s] w λe w'=>e=ay (bV (firstM s))/\w'=w:=by
 have i:=j5 s [102,105,108,108];have h:=j5 s [115,104,111,119];have b:=j5 s [114,117,108,101];have a:=j5 s [108,101,118,101,108];unfold firstM wD Ad yG uH;cases c:(s==[102,105,108,108]) with
 |true=>
  rw[c] at i;rw[aR (by simpa using c)];clear h b a;go_enter func109,ntmps109;go_wp2_with fail;go_ret;exact⟨rfl,rfl⟩
 |false=>
  rw[c] at i;rw[aG (by simpa using c)];cases d:(s==[115,104,111,119]) with
  |true=>
   rw[d] at h;rw[aR (by simpa using d)];clear b a;go_enter func109,ntmps109;go_wp2_with fail;go_ret;exact⟨rfl,rfl⟩
  |false=>
   rw[d] at h;rw[aG (by simpa using d)];cases f:(s==[114,117,108,101]) with
   |true=>
    rw[f] at b;rw[aR (by simpa using f)];clear a;go_enter func109,ntmps109;go_wp2_with fail;go_ret;exact⟨rfl,rfl⟩
   |false=>
    rw[f] at b;rw[aG (by simpa using f)];cases g:(s==[108,101,118,101,108]) with
    |true=>
     rw[g] at a;rw[aR (by simpa using g)];go_enter func109,ntmps109;go_wp2_with fail;go_ret;exact⟨rfl,rfl⟩
    |false=>
     rw[g] at a;rw[aG (by simpa using g)];go_enter func109,ntmps109;go_wp2_with fail;go_ret;exact⟨rfl,rfl⟩
theorem Eh (s:Bs)(w:ai):aL 105 #[bV s] w λe w'=>e=ay (.bool (Dz s))/\w'=w:=by
 have a:=Ef s w;unfold Dz;obtain⟨x,b⟩:∃x,firstM s=x:=⟨_,rfl⟩;rw[b] at a⊢;clear b;have c:=j5 x [];unfold bne;cases d:(x==[]) with
 |true=>
  rw[d] at c;go_enter func105,ntmps105;go_wp2_with(go_at_call 109;refine a.mono ?_;rintro e f ⟨rfl,h⟩;rw[h];clear h);go_ret;exact⟨rfl,rfl⟩
 |false=>
  rw[d] at c;go_enter func105,ntmps105;go_wp2_with(go_at_call 109;refine a.mono ?_;rintro e f ⟨rfl,h⟩;rw[h];clear h);go_ret;exact⟨rfl,rfl⟩
theorem Zk (s:Bs)(w:ai):aL 108 #[bV s] w λe w'=>e=ay (.bool (Kz s))/\w'=w:=by
 have b:=j5 s [102,105,108,108];have a:=j5 s [114,117,108,101];unfold Kz wD yG;cases c:(s==[102,105,108,108]) with
 |true=>
  rw[c] at b;clear a;go_enter func108,ntmps108;go_wp2_with fail;go_ret;exact⟨rfl,rfl⟩
 |false=>
  rw[c] at b;cases d:(s==[114,117,108,101]) with
  |true=>
   rw[d] at a;go_enter func108,ntmps108;go_wp2_with fail;go_ret;exact⟨rfl,rfl⟩
  |false=>
   rw[d] at a;go_enter func108,ntmps108;go_wp2_with fail;go_ret;exact⟨rfl,rfl⟩
theorem UI (x:Nat)(w:ai):FnGives prog 181 #[] #[encR x] (.bool (Yr x)) w:=by
 show aL 181 #[.int .i32 (x:Int)] w λe l=>e=ay (.bool (Yr x))/\∃q,l=w.drewN q;unfold Yr;by_cases g:97<=x
 .have d:(97:Int)<=(x:Int):=aa;rw[decide_eq_true g];by_cases h:x<=122
  .have f:(x:Int)<=122:=aa;rw[decide_eq_true h];go_enter func181,ntmps181;go_wp2_with fail;go_ret;exact⟨rfl,0,rfl⟩
  .have f:¬(x:Int)<=122:=aa;have b:(48:Int)<=(x:Int):=aa;have c:¬(x:Int)<=57:=aa;have a:((x:Int)==45)=false:=by rw[dW];omega
   rw[iU h,decide_eq_true (show 48<=x from by omega),iU (show¬x<=57 from by omega),dW.2 (show x≠45 from by omega)];go_enter func181,ntmps181;go_wp2_with fail;go_ret;exact⟨rfl,0,rfl⟩
 .have d:¬(97:Int)<=(x:Int):=aa;rw[iU g];by_cases i:48<=x
  .have b:(48:Int)<=(x:Int):=aa;rw[decide_eq_true i];by_cases j:x<=57
   .have c:(x:Int)<=57:=aa;rw[decide_eq_true j];go_enter func181,ntmps181;go_wp2_with fail;go_ret;exact⟨rfl,0,rfl⟩
   .have c:¬(x:Int)<=57:=aa;have a:((x:Int)==45)=false:=by rw[dW];omega
    rw[iU j,dW.2 (show x≠45 from by omega)];go_enter func181,ntmps181;go_wp2_with fail;go_ret;exact⟨rfl,0,rfl⟩
  .have b:¬(48:Int)<=(x:Int):=aa;rw[iU i];cases k:(x==45) with
   |true=>
    have a:((x:Int)==45)=true:=by
     have:x=45:=by simpa using k
     subst this;rfl
    go_enter func181,ntmps181;go_wp2_with fail;go_ret;exact⟨rfl,0,rfl⟩
   |false=>
    have a:((x:Int)==45)=false:=by
     have:¬x=45:=by simpa using k
     rw[dW];omega
    go_enter func181,ntmps181;go_wp2_with fail;go_ret;exact⟨rfl,0,rfl⟩
theorem UJ (s:Bs)(w:ai):aL 120 #[bV s] w λe w'=>e=ay (.bool (zh s))/\aD w w':=by
 have h:=j5 s [];unfold zh bne;cases i:(s==[]) with
 |true=>
  rw[i] at h;go_enter func120,ntmps120;go_wp2_with fail;go_ret;exact⟨rfl,aW _ _⟩
 |false=>
  rw[i] at h;have l:=gY s;by_cases a:s.length<=12
  .have c:¬12<(s.length:Int):=aa;have d:¬12<((⟨s.toArray⟩:aO).size:Int):=aa;rw[decide_eq_true a];have f:=Tryz.strings_ContainsFunc 181 #[] (enters_of func181 aA rfl) Yr ⟨s.toArray⟩ w (λW x _=>UI x W);obtain⟨b,j⟩:∃b,decide (0<=Lib.idxFunc Yr true ⟨s.toArray⟩)=b:=⟨_,rfl⟩;rw[j] at f⊢;cases b with
   |true=>
    go_enter func120,ntmps120;go_wp2_with(go_at_call 180;refine f.mono ?_;rintro e k ⟨rfl,g⟩);go_ret;exact⟨rfl,g⟩
   |false=>
    go_enter func120,ntmps120;go_wp2_with(go_at_call 180;refine f.mono ?_;rintro e k ⟨rfl,g⟩);go_ret;exact⟨rfl,g⟩
  .have c:12<(s.length:Int):=aa;have d:12<((⟨s.toArray⟩:aO).size:Int):=aa;rw[iU a];go_enter func120,ntmps120;go_wp2_with fail;go_ret;exact⟨rfl,aW _ _⟩
set_option maxRecDepth 20000
abbrev rlV (r:Rl):ax:=.agg #[bV r.wh,bV r.nm,bV r.vl]
def rlR:Option Rl->ax
 |none=>aH #[.agg #[au ⟨#[]⟩,au ⟨#[]⟩,au ⟨#[]⟩],.bool false]
 |some r=>aH #[rlV r,.bool true]
def TF (W:ai):Prop:=∃m,W.cell? (aJ 12 0)=some (ag m)
theorem TF.below {W V:ai}(h:TF W)(b:aD W V):TF V:=by
 obtain⟨m,a⟩:=h;exact⟨m,(b.cell (aM a)).trans a⟩
theorem Bg (s a:Bs)(hs:s.length<=1000000)(W:ai)(b:TF W):
  aL 59 #[bV s,au ⟨a.toArray⟩] W λe w'=>e=ay (aH #[bV (Lib.cut s a).1,bV (Lib.cut s a).2.1,.bool (Lib.cut s a).2.2])/\aD W w':=by
 obtain⟨m,b⟩:=b;refine(Tryz.strings_Cut ⟨s.toArray⟩ ⟨a.toArray⟩ m W (by rw[gY];omega) b).mono ?_;rintro e w' ⟨rfl,n,rfl⟩;exact⟨rfl,below_drewN' (aW _ _) n⟩
theorem Xr {X:ai}{k:Nat}{v:Obj}(o:Obj)(h:X.heap[k]? =some v):(X.alloc o).heap[k]? =some v:=((dR X o).block k (eY.1 h).1).trans h
theorem xg {R:Nat}{cs:Array ax}(h:w.heap[R]? =some (ak cs t))(o:Nat)(v:ax):(w.setCell ⟨R,o,none⟩ v).heap[R]? =some (ak (cs.setIfInBounds o v) t):=by simp[World.setCell,Array.getElem?_modify,h]
theorem JW {W:ai}{R:Nat}{a b c:ax}(h:w.heap[R]? =some (ak #[a,b,c] t))(d:W.heap.size<=R)(f:aD W w)(x y z:ax):
  ∀U,((w.setCell ⟨R,0,none⟩ x).setCell ⟨R,1,none⟩ y).setCell ⟨R,2,none⟩ z=U->U.cell? (aJ R 0)=some x/\U.cell? (aJ R 1)=some y/\U.cell? (aJ R 2)=some z/\aD W U:=by
 rintro U rfl;have e:=xg (xg (xg h 0 x) 1 y) 2 z;exact⟨aQ e 0 _ rfl,aQ e 1 _ rfl,aQ e 2 _ rfl,((f.setCell (p:=⟨R,0,none⟩) d _).setCell (p:=⟨R,1,none⟩) d _).setCell (p:=⟨R,2,none⟩) d _⟩
theorem Nt (s:Bs)(hs:s.length<=1000000)(W:ai)(ea:Addr)(hE:W.cell? (aJ 1 0)=some (aU 453 (.pointer (some ea))))(E:TF W):
  aL 72 #[bV s] W λe w'=>e=ay (rlR (vI s))/\aD W w':=by
 obtain⟨a5,k⟩:∃x,vI s=x:=⟨_,rfl⟩;have F:=k;unfold vI at F;rw[k];clear k;have S:=λV (E:TF V)=>Bg s [32,123,32] hs V E;have l1:=oU s [32,123,32];have l2:=wE s [32,123,32];obtain⟨m,n⟩:∃x,(Lib.cut s [32,123,32]).1=x:=⟨_,rfl⟩;obtain⟨t,o⟩:∃x,(Lib.cut s [32,123,32]).2.1=x:=⟨_,rfl⟩;obtain⟨o1,u⟩:∃x,(Lib.cut s [32,123,32]).2.2=x:=⟨_,rfl⟩;rw[n,o,u] at F;simp only[n,o,u] at S;rw[n] at l1;rw[o] at l2;clear n o u;have CS:∀V,aL 119 #[bV t,au ⟨#[32,125]⟩] V λe w'=>e=ay (aH #[bV (Lib.trimSuffix t [32,125]),.bool (Lib.hasSuffix t [32,125])])/\w'=V:=λV=>Tryz.strings_CutSuffix ⟨t.toArray⟩ ⟨#[32,125]⟩ V (by rw[gY];omega);have l3:=Yt t [32,125];obtain⟨r1,p⟩:∃x,Lib.trimSuffix t [32,125]=x:=⟨_,rfl⟩;obtain⟨cl,w⟩:∃x,Lib.hasSuffix t [32,125]=x:=⟨_,rfl⟩;rw[p,w] at F;simp only[p,w] at CS;rw[p] at l3;clear p w;have C2:=λV (E:TF V)=>Bg r1 [58,32] aa V E;obtain⟨T,y⟩:∃x,(Lib.cut r1 [58,32]).1=x:=⟨_,rfl⟩;obtain⟨X,z⟩:∃x,(Lib.cut r1 [58,32]).2.1=x:=⟨_,rfl⟩;obtain⟨pt,A⟩:∃x,(Lib.cut r1 [58,32]).2.2=x:=⟨_,rfl⟩;rw[y,z,A] at F;simp only[y,z,A] at C2;clear y z A;have B:=aF F;clear F;have n0:=dY W #[au ⟨#[]⟩,au ⟨#[]⟩,au ⟨#[]⟩] 150;have b0:=dR W (ak #[au ⟨#[]⟩,au ⟨#[]⟩,au ⟨#[]⟩] 150);go_enter func72,ntmps72;go_upto_region 1 with fail;obtain⟨V,hV⟩:∃V,W.alloc (ak #[au ⟨#[]⟩,au ⟨#[]⟩,au ⟨#[]⟩] 150)=V:=⟨_,rfl⟩;rw[hV] at n0 b0⊢;clear hV;have HM:Hid (TF V):=E.below b0;have HE:Hid (V.cell? (aJ 1 0)=some (aU 453 (.pointer (some ea)))):=(b0.cell (aM hE)).trans hE;clear E hE;have S:=S V HM.out;go_upto_region 2 with(go_at_call 59;refine S.mono ?_;rintro e w1 ⟨rfl,b1⟩);have Y:=CS w1;go_upto_region 3 with(go_at_call 119;refine Y.mono ?_;rintro e r ⟨rfl,h2⟩;rw[h2];clear h2);have Z:=C2 w1 (HM.out.below b1);go_upto_region 4 with(go_at_call 59;refine Z.mono ?_;rintro e r ⟨rfl,b2⟩)
 clear S CS Y C2 Z;have q2:=bf b1 b2;have a:=gZ q2 n0;have H:=Eh T r;have IV:=UJ X r;have d:=bf b0 q2;have RD:=λV' (hb:aD V V')=>I5 m aa V' ea ((hb.cell (aM HE.out)).trans HE.out);have a4:=λV' (hb:aD r V')=>RD V' (bf q2 hb);clear RD;cases o1 with
 |false=>
  have I:=aQ a 0 _ rfl;have J:=aQ a 1 _ rfl;have K:=aQ a 2 _ rfl;have L:=bG a 0;have M:=bG a 1;have N:=bG a 2;go_wp2_with fail;obtain⟨U,b⟩:∃U,((r.setCell ⟨W.heap.size,0,none⟩ (au ⟨#[]⟩)).setCell ⟨W.heap.size,1,none⟩ (au ⟨#[]⟩)).setCell ⟨W.heap.size,2,none⟩ (au ⟨#[]⟩)=U:=⟨_,rfl⟩;obtain⟨f,g,i,j⟩:=JW a az d (au ⟨#[]⟩) (au ⟨#[]⟩) (au ⟨#[]⟩) U b;rw[b];refine bg (v:=aH #[.agg #[(au ⟨#[]⟩),(au ⟨#[]⟩),(au ⟨#[]⟩)],.bool false]) (by simp[results,results72,go_sem,f,g,i]) rfl ⟨by rw[<- B.out];rfl,j⟩
 |true=>
  cases cl with
  |false=>
   have I:=aQ a 0 _ rfl;have J:=aQ a 1 _ rfl;have K:=aQ a 2 _ rfl;have L:=bG a 0;have M:=bG a 1;have N:=bG a 2;go_wp2_with fail;obtain⟨U,b⟩:∃U,((r.setCell ⟨W.heap.size,0,none⟩ (au ⟨#[]⟩)).setCell ⟨W.heap.size,1,none⟩ (au ⟨#[]⟩)).setCell ⟨W.heap.size,2,none⟩ (au ⟨#[]⟩)=U:=⟨_,rfl⟩;obtain⟨f,g,i,j⟩:=JW a az d (au ⟨#[]⟩) (au ⟨#[]⟩) (au ⟨#[]⟩) U b;rw[b];refine bg (v:=aH #[.agg #[(au ⟨#[]⟩),(au ⟨#[]⟩),(au ⟨#[]⟩)],.bool false]) (by simp[results,results72,go_sem,f,g,i]) rfl ⟨by rw[<- B.out];rfl,j⟩
  |true=>
   cases pt with
   |false=>
    have I:=aQ a 0 _ rfl;have J:=aQ a 1 _ rfl;have K:=aQ a 2 _ rfl;have L:=bG a 0;have M:=bG a 1;have N:=bG a 2;go_wp2_with fail;obtain⟨U,b⟩:∃U,((r.setCell ⟨W.heap.size,0,none⟩ (au ⟨#[]⟩)).setCell ⟨W.heap.size,1,none⟩ (au ⟨#[]⟩)).setCell ⟨W.heap.size,2,none⟩ (au ⟨#[]⟩)=U:=⟨_,rfl⟩;obtain⟨f,g,i,j⟩:=JW a az d (au ⟨#[]⟩) (au ⟨#[]⟩) (au ⟨#[]⟩) U b;rw[b];refine bg (v:=aH #[.agg #[(au ⟨#[]⟩),(au ⟨#[]⟩),(au ⟨#[]⟩)],.bool false]) (by simp[results,results72,go_sem,f,g,i]) rfl ⟨by rw[<- B.out];rfl,j⟩
   |true=>
    cases O:Dz T with
    |false=>
     rw[O] at H;have I:=aQ a 0 _ rfl;have J:=aQ a 1 _ rfl;have K:=aQ a 2 _ rfl;have L:=bG a 0;have M:=bG a 1;have N:=bG a 2;go_wp2_with(go_at_call 105;refine H.mono ?_;rintro e P ⟨rfl,h⟩;rw[h];clear h);obtain⟨U,b⟩:∃U,((r.setCell ⟨W.heap.size,0,none⟩ (au ⟨#[]⟩)).setCell ⟨W.heap.size,1,none⟩ (au ⟨#[]⟩)).setCell ⟨W.heap.size,2,none⟩ (au ⟨#[]⟩)=U:=⟨_,rfl⟩;obtain⟨f,g,i,j⟩:=JW a az d (au ⟨#[]⟩) (au ⟨#[]⟩) (au ⟨#[]⟩) U b;rw[b];refine bg (v:=aH #[.agg #[(au ⟨#[]⟩),(au ⟨#[]⟩),(au ⟨#[]⟩)],.bool false]) (by simp[results,results72,go_sem,f,g,i]) rfl ⟨by rw[<- B.out];rw[O];rfl,j⟩
    |true=>
     rw[O] at H;cases hv:zh X with
     |false=>
      rw[hv] at IV;go_upto_region 5 with(first|(go_at_call 105;refine H.mono ?_;rintro e P ⟨rfl,h⟩;rw[h];clear h)|(go_at_call 120;refine IV.mono ?_;rintro e P ⟨rfl,Q⟩));have l:=gZ Q a;have R:=bf d Q;have I:=aQ l 0 _ rfl;have J:=aQ l 1 _ rfl;have K:=aQ l 2 _ rfl;have L:=bG l 0;have M:=bG l 1;have N:=bG l 2;go_wp2_with fail;obtain⟨U,b⟩:∃U,((P.setCell ⟨W.heap.size,0,none⟩ (au ⟨#[]⟩)).setCell ⟨W.heap.size,1,none⟩ (au ⟨#[]⟩)).setCell ⟨W.heap.size,2,none⟩ (au ⟨#[]⟩)=U:=⟨_,rfl⟩;obtain⟨f,g,i,j⟩:=JW l az R (au ⟨#[]⟩) (au ⟨#[]⟩) (au ⟨#[]⟩) U b;rw[b];refine bg (v:=aH #[.agg #[(au ⟨#[]⟩),(au ⟨#[]⟩),(au ⟨#[]⟩)],.bool false]) (by simp[results,results72,go_sem,f,g,i]) rfl ⟨by rw[<- B.out];rw[O,hv];rfl,j⟩
     |true=>
      rw[hv] at IV;go_upto_region 6 with(first|(go_at_call 105;refine H.mono ?_;rintro e P ⟨rfl,h⟩;rw[h];clear h)|(go_at_call 120;refine IV.mono ?_;rintro e P ⟨rfl,Q⟩));have l:=gZ Q a;have R:=bf d Q;have q:=a4 P Q;clear a4 H IV;cases hs:su m with
      |false=>
       rw[hs,aG aI] at q;go_upto_region 8 with(go_at_call 53;refine q.mono ?_;rintro e w4 ⟨rfl,C⟩);have c:=Xr (ak #[au ⟨#[]⟩] 105) (gZ C l);have D:=(bf R C).alloc (bf R C).size (ak #[au ⟨#[]⟩] 105);have I:=aQ c 0 _ rfl;have J:=aQ c 1 _ rfl;have K:=aQ c 2 _ rfl;have L:=bG c 0;have M:=bG c 1;have N:=bG c 2;go_wp2_with fail;obtain⟨U,b⟩:∃U,(((w4.alloc (ak #[au ⟨#[]⟩] 105)).setCell ⟨W.heap.size,0,none⟩ (au ⟨#[]⟩)).setCell ⟨W.heap.size,1,none⟩ (au ⟨#[]⟩)).setCell ⟨W.heap.size,2,none⟩ (au ⟨#[]⟩)=U:=⟨_,rfl⟩;obtain⟨f,g,i,j⟩:=JW c az D (au ⟨#[]⟩) (au ⟨#[]⟩) (au ⟨#[]⟩) U b;rw[b];refine bg (v:=aH #[.agg #[(au ⟨#[]⟩),(au ⟨#[]⟩),(au ⟨#[]⟩)],.bool false]) (by simp[results,results72,go_sem,f,g,i]) rfl ⟨by rw[<- B.out];rw[O,hv,hs];rfl,j⟩
      |true=>
       rw[hs,aR rfl] at q;go_upto_region 9 with(go_at_call 53;refine q.mono ?_;rintro e w4 ⟨rfl,C⟩);have c:=Xr (ak #[bV m] 105) (gZ C l);have m4:=dY w4 #[bV m] 105;have d4:=aQ m4 0 _ rfl;have D:=(bf R C).alloc (bf R C).size (ak #[bV m] 105);have I:=aQ c 0 _ rfl;have J:=aQ c 1 _ rfl;have K:=aQ c 2 _ rfl;have L:=bG c 0;have M:=bG c 1;have N:=bG c 2;go_wp2_with fail;obtain⟨U,b⟩:∃U,(((w4.alloc (ak #[bV m] 105)).setCell ⟨W.heap.size,0,none⟩ (bV m)).setCell ⟨W.heap.size,1,none⟩ (bV T)).setCell ⟨W.heap.size,2,none⟩ (bV X)=U:=⟨_,rfl⟩;obtain⟨f,g,i,j⟩:=JW c az D (bV m) (bV T) (bV X) U b;rw[b];refine bg (v:=aH #[.agg #[(bV m),(bV T),(bV X)],.bool true]) (by simp[results,results72,go_sem,f,g,i]) rfl ⟨by rw[<- B.out];rw[O,hv,hs];rfl,j⟩
def fP:List Rl->List ax
 |[]=>[]
 |r::l=>bV r.wh::bV r.nm::bV r.vl::fP l
theorem Ei:∀(l:List Rl) (r:Rl),fP (l++[r])=fP l++[bV r.wh,bV r.nm,bV r.vl]
 |[],_=>rfl
 |x::l,r=>by rw[gH,fP,fP,Ei l r];rfl
theorem Lu:∀{l:List Rl} {i:Nat} {r:Rl},l[i]? =some r->(fP l)[i*3]? =some (bV r.wh)/\(fP l)[i*3+1]? =some (bV r.nm)/\(fP l)[i*3+2]? =some (bV r.vl)
 |[],_,_,h=>by simp at h
 |y::l,0,x,h=>by
  simp at h;subst h;exact⟨rfl,rfl,rfl⟩
 |y::l,i+1,x,h=>by
  have a:=Lu (l:=l) (i:=i) (r:=x) (by simpa using h);rw[show(i+1)*3=i*3+1+1+1 from by omega];exact⟨by simpa[fP] using a.1,by simpa[fP] using a.2.1,by simpa[fP] using a.2.2⟩
theorem abI:(prog.info? 150).map (λi=>(i.zero,i.size,i.bytes))=some (some (.agg #[au ByteArray.empty,au ByteArray.empty,au ByteArray.empty]),3,48):=aA
theorem a7v {a:Nat}{e:TypeId}{b:Nat}{n:Nat}{c:List ax}(h:w.ownsRow a e b v n c):∀k,v.ownBlock=some k->a<=k:=λk d=>(h.lt k d).1
theorem QK (w:ai)(x y z:ax)(t:TypeId):∀j u,[x,y,z][j]? =some u->(w.alloc (ak #[x,y,z] t)).cell? ((⟨w.heap.size,0,none⟩:Addr).add j)=some u:=by
 intro j u h
 match j,h with
 |0,h=>simp at h;subst h;exact kJ w #[x,y,z] t 0 x rfl
 |1,h=>simp at h;subst h;exact kJ w #[x,y,z] t 1 y rfl
 |2,h=>simp at h;subst h;exact kJ w #[x,y,z] t 2 z rfl
def ShR (ea c:Addr)(a:Nat)(r:Except Nat (List Rl))(e:Ending)(w:ai):Prop:=match r with
 | .error k=>∃b,e=ay (aH #[aj none 0 0,aU 67 (aK b)])/\w.heap[b]? =some (ak #[ag k,aU 453 (.pointer (some ea))] 71)
 | .ok l=>(40<l.length/\e=ay (aH #[aj none 0 0,aU 453 (.pointer (some c))]))\/(l.length<=40/\∃v,e=ay (aH #[v,aY])/\w.ownsRow a 150 3 v l.length (fP l))
theorem Lv (s:Bs)(hs:s.length<=10000)(W:ai)(ea ef:Addr)(hE:W.cell? (aJ 1 0)=some (aU 453 (.pointer (some ea))))(hF:W.cell? (aJ 6 0)=some (aU 453 (.pointer (some ef))))(hm:TF W):
  aL 38 #[bV s] W λe w'=>ShR ea ef W.heap.size (Mt s) e w'/\aD W w':=by
 obtain⟨i0,hi,S,T,U⟩:=info_parts abI;have HM:=aF hm;have M:=aF hE;have HF:=aF hF;have X:=gY s;have b4:¬10000<(s.length:Int):=aa;have b5:¬10000<((⟨s.toArray⟩:aO).size:Int):=aa;obtain⟨c,j⟩:∃x,Mt s=x:=⟨_,rfl⟩;have HS:=aF j;rw[j];clear j hm hE hF X;go_enter func38,ntmps38;go_wp2_with fail
 go_loopw [0,4,5] (λx v y wr=>∃(f:Nat) (t:Bs) (a:List Rl),x=bV t/\y=ag a.length/\t.length<f/\a.length+t.length<=10000/\U4 f a t=c/\wr.ownsRow W.heap.size 150 3 v a.length (fP a)/\aD W wr) (λx _ _ _=>QG x)
 case atStart=>exact⟨_,s,[],rfl,rfl,Nat.lt_succ_self _,by simpa using hs,HS.out,gp _ _ _ _,aW _ _⟩
 case round=>
  obtain⟨f,t,a,rfl,rfl,hf,b6,N,E,d⟩:=hrel;have Y:=aF E;have u:=aF N;have h0:=j5 t [];have b7:=d.size;clear E N;obtain⟨ov,kv,Z⟩:=bD Y.out;subst Z;cases ht:(t==[]) with
  |true=>
   have k:t=[]:=by simpa using ht
   subst k;have l:c=.ok a:=by rw[<- u.out,Wu]
   subst l;by_cases a4:40<a.length
   .have a5:40<(a.length:Int):=aa;have cF:=(d.cell (aM HF.out)).trans HF.out;go_upto_region 14 with fail;go_region
    all_goals go_wp2_with fail
    all_goals go_ret2
    all_goals exact⟨.inl ⟨a4,rfl⟩,d.drew⟩
   .have a5:¬40<(a.length:Int):=aa;go_wp2_with fail
    go_ret2
    exact⟨.inr ⟨aa,_,rfl,Y.out⟩,d⟩
  |false=>
   have k:t≠[]:=by intro e;subst e;simp at ht
   have a6:t.length<=1000000:=aa;obtain⟨g,rfl⟩:∃g,f=g+1:=⟨f-1,aa⟩;have C1:=Bg t [10] a6 wr (HM.out.below d);have l1:=oU t [10];have l2:=Wt t [10];obtain⟨Q,m⟩:∃x,(Lib.cut t [10]).1=x:=⟨_,rfl⟩;obtain⟨rs,w⟩:∃x,(Lib.cut t [10]).2.1=x:=⟨_,rfl⟩;obtain⟨R,n⟩:∃x,(Lib.cut t [10]).2.2=x:=⟨_,rfl⟩;have F:vI Q=none->c=.error a.length:=λh=>by rw[<- u.out];exact Wv k (by rw[m];exact h)
   have o:R=false->c=.error a.length:=λh=>by rw[<- u.out];exact OL k (by rw[n];exact h)
   have p:∀r,vI Q=some r->R=true->U4 g (a++[r]) rs=c:=λr h1 h2=>by rw[<- u.out,OM k (by rw[m];exact h1) (by rw[n];exact h2),w]
   rw[m,w,n] at C1;rw[m] at l1;rw[w,n] at l2;clear m w n;have HB:=aF F;have HP:=aF o;have a7:=aF p;have a8:=aF l2;clear F o p l2;have RR:=λV (hv:aD wr V)=>Nt Q aa V ea (((bf d hv).cell (aM M.out)).trans M.out) (HM.out.below (bf d hv));obtain⟨ro,I⟩:∃x,vI Q=x:=⟨_,rfl⟩;simp only[I] at RR;have O:=aF I;clear I;go_upto_region 8 with(go_at_call 59;refine C1.mono ?_;rintro e w1 ⟨rfl,z⟩);have b:=RR w1 z;clear RR C1;cases ro with
   |none=>
    unfold rlR at b;go_upto_region 9 with(go_at_call 72;refine b.mono ?_;rintro e A ⟨rfl,q⟩);clear b;have B:=dR A (ak #[au ⟨#[]⟩,au ⟨#[]⟩,au ⟨#[]⟩] 150);have i:=(bf (bf d z) q).alloc (bf (bf d z) q).size (ak #[au ⟨#[]⟩,au ⟨#[]⟩,au ⟨#[]⟩] 150);obtain⟨V3,H⟩:∃V,A.alloc (ak #[au ⟨#[]⟩,au ⟨#[]⟩,au ⟨#[]⟩] 150)=V:=⟨_,rfl⟩;rw[H] at i⊢;clear H B;have cE:=(i.cell (aM M.out)).trans M.out;have l:c=.error a.length:=HB.out O.out;subst l;have C:=dY V3 #[ag a.length,aU 453 (.pointer (some ea))] 71;have D:=i.alloc i.size (ak #[ag a.length,aU 453 (.pointer (some ea))] 71);cases R with
    |true=>
     go_upto_region 10 with fail;go_region
     all_goals go_wp2_with fail
     all_goals go_ret2
     all_goals exact⟨⟨_,rfl,C⟩,D.drew⟩
    |false=>
     go_upto_region 10 with fail;go_region
     all_goals go_wp2_with fail
     all_goals go_ret2
     all_goals exact⟨⟨_,rfl,C⟩,D.drew⟩
   |some r=>
    unfold rlR at b;cases R with
    |false=>
     go_upto_region 9 with(go_at_call 72;refine b.mono ?_;rintro e A ⟨rfl,q⟩);clear b;have B:=dR A (ak #[bV r.wh,bV r.nm,bV r.vl] 150);have i:=(bf (bf d z) q).alloc (bf (bf d z) q).size (ak #[bV r.wh,bV r.nm,bV r.vl] 150);obtain⟨V3,H⟩:∃V,A.alloc (ak #[bV r.wh,bV r.nm,bV r.vl] 150)=V:=⟨_,rfl⟩;rw[H] at i⊢;clear H B;have cE:=(i.cell (aM M.out)).trans M.out;have l:c=.error a.length:=HP.out aI;subst l;have C:=dY V3 #[ag a.length,aU 453 (.pointer (some ea))] 71;have D:=i.alloc i.size (ak #[ag a.length,aU 453 (.pointer (some ea))] 71);go_upto_region 10 with fail;go_region
     all_goals go_wp2_with fail
     all_goals go_ret2
     all_goals exact⟨⟨_,rfl,C⟩,D.drew⟩
    |true=>
     go_upto_region 9 with(go_at_call 72;refine b.mono ?_;rintro e A ⟨rfl,q⟩);clear b;have B:=dY A #[bV r.wh,bV r.nm,bV r.vl] 150;have B3:=(bf z q).alloc (bf z q).size (ak #[bV r.wh,bV r.nm,bV r.vl] 150);have i:=(bf (bf d z) q).alloc (bf (bf d z) q).size (ak #[bV r.wh,bV r.nm,bV r.vl] 150);obtain⟨V3,H⟩:∃V,A.alloc (ak #[bV r.wh,bV r.nm,bV r.vl] 150)=V:=⟨_,rfl⟩;obtain⟨P,hP⟩:∃V,A.heap.size=V:=⟨_,rfl⟩;rw[H] at i B3 B⊢;rw[hP] at B⊢;clear H hP q;have J:Hid (V3.ownsRow W.heap.size 150 3 (aj ov a.length kv) a.length (fP a)):=bY Y.out B3;have p0:=aQ B 0 _ rfl;have p1:=aQ B 1 _ rfl;have p2:=aQ B 2 _ rfl;have a9:=i.size;have b8:(fP a).length=a.length*3:=J.out.1;go_wp2_with(at_builtin;refine wpList_append_own _ rfl _ _ 77 rfl W.heap.size 150 i0 (.agg #[au ByteArray.empty,au ByteArray.empty,au ByteArray.empty]) 3 48 underlying77 hi S T U rfl aC _ _ _ rfl (iF J.out _) ⟨V3.heap.size,0,none⟩ 1 1 [bV r.wh,bV r.nm,bV r.vl] rfl rfl (QK V3 _ _ _ _) (λx hx=>by simp at hx;rcases hx with rfl|rfl|rfl<;>rfl) (by rw[dD];omega) aa bq ?_;intro v' w4 K L _);have b0:=(i.alloc a9 _).grown L bq (a7v J.out);have b3:=a8.out aI aI
     go_roundw
     case rel=>exact⟨g,rs,a++[r],rfl,aI,aa,bq,a7.out r O.out aI,by rw[Ei,dO];exact K,b0⟩
     case measure=>simp only[Cv];simpa[Cv] using b3
