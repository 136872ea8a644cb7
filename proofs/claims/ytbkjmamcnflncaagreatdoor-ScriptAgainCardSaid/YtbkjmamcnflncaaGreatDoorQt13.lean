import Derived.Shelf.SlSortCmp.InsertionK
import Derived.Shelf.SlSortFuncK.SWK
import Derived.Test.YtbkjmamcnflncaaGreatDoorQt2
import Derived.Deep.CutRange
namespace Go.Proofs.YtbkjmamcnflncaaGreatDoor
open Go.Proofs.Tryz
set_option maxHeartbeats 16000000
section
open Go.Sort
section
variable {α:Type}[Inhabited α]{B:α->Int}{A:α->Nat}
def Cu (B:α->Int)(A:α->Nat)(x y:α):Prop:=B x<B y\/B x=B y/\A x<A y
omit [Inhabited α] in
theorem Cu.trans {x y z:α}(h:Cu B A x y)(a:Cu B A y z):Cu B A x z:=by
 unfold Cu at*;omega
omit [Inhabited α] in
theorem Cu.le {x y:α}(h:Cu B A x y):B x<=B y:=by
 unfold Cu at*;omega
def InR (d:Array α)(a b:Nat)(x:α):Prop:=∃i,a<=i/\i<b/\d[i]! =x
def QA (B:α->Int)(A:α->Nat)(d:Array α)(a b:Nat):Prop:=∀i j,a<=i->i<j->j<b->Cu B A d[i]! d[j]!
structure yV (d d':Array α)(a b:Nat):Prop where
 sz:d'.size=d.size
 out:∀i,i<a\/b<=i->d'[i]! =d[i]!
 same:∀x,InR d' a b x↔InR d a b x
theorem yV.refl (d:Array α)(a b:Nat):yV d d a b:=⟨rfl,λ_ _=>rfl,λ_=>Iff.rfl⟩
theorem yV.trans {d e f:Array α}{a b:Nat}(h:yV d e a b)(c:yV e f a b):yV d f a b:=
 ⟨c.sz.trans h.sz,λi g=>(c.out i g).trans (h.out i g),λx=>(c.same x).trans (h.same x)⟩
theorem yV.mono {d e:Array α}{a b l m:Nat}(h:yV d e a b)(p:l<=a)(q:b<=m):yV d e l m:=by
 refine⟨h.sz,λi c=>h.out i aa,λx=>⟨?_,?_⟩⟩
 .rintro⟨i,f,g,rfl⟩;by_cases c:a<=i/\i<b
  .obtain⟨j,n,o,k⟩:=(h.same _).1 ⟨i,c.1,c.2,rfl⟩;exact⟨j,aa,aa,k⟩
  .exact⟨i,f,g,(h.out i aa).symm⟩
 .rintro⟨i,f,g,rfl⟩;by_cases c:a<=i/\i<b
  .obtain⟨j,n,o,k⟩:=(h.same _).2 ⟨i,c.1,c.2,rfl⟩;exact⟨j,aa,aa,k⟩
  .exact⟨i,f,g,h.out i aa⟩
theorem yV.srt {d e:Array α}{a b u v:Nat}(h:yV d e a b)(hs:QA B A d u v)(k:v<=a\/b<=u):QA B A e u v:=λi j c f g=>by
 rw[h.out i aa,h.out j aa];exact hs i j c f g
theorem yV.swp {d:Array α}{a b i j:Nat}(hi:a<=i/\i<b)(f:a<=j/\j<b)(l:b<=d.size):yV d (swp d i j) a b:=by
 have G:=λk=>swp_get d (i:=i) (j:=j) aa aa k;refine⟨swp_size _ _ _,λk m=>by rw[G,aG aa,aG aa],λx=>⟨?_,?_⟩⟩
 .rintro⟨k,g,h,rfl⟩;rw[G];by_cases c:k=j
  .rw[aR c];exact⟨i,hi.1,hi.2,rfl⟩
  .by_cases e:k=i
   .rw[aG c,aR e];exact⟨j,f.1,f.2,rfl⟩
   .rw[aG c,aG e];exact⟨k,g,h,rfl⟩
 .rintro⟨k,g,h,rfl⟩;by_cases c:k=j
  .refine⟨i,hi.1,hi.2,?_⟩;grind
  .by_cases e:k=i
   .exact⟨j,f.1,f.2,by rw[G,aR rfl,e]⟩
   .exact⟨k,g,h,by rw[G,aG c,aG e]⟩
structure Uu (key:α->Int)(tag:α->Nat)(d:Array α)(a j i:Nat):Prop where
 sr:∀u v,a<=u->u<v->v<=i->u≠j->v≠j->Cu key tag d[u]! d[v]!
 up:∀v,j<v->v<=i->Cu key tag d[j]! d[v]!
 tg:∀u,a<=u->u<j->tag d[u]! < tag d[j]!
theorem Uu.stop {d:Array α}{a j i:Nat}(h:Uu B A d a j i)(hs:j=a\/a<j/\¬B d[j]! < B d[j-1]!):QA B A d a (i+1):=λu v c e m=>by
 have below:∀u,a<=u->u<j->j<=i->Cu B A d[u]! d[j]! :=λu b f g=>by
  rcases hs with k|⟨k,n⟩
  .omega
  .have c:Cu B A d[j-1]! d[j]! :=by
    have:=h.tg (j-1) aa aa;unfold Cu;omega
   by_cases o:u=j-1
   .grind
   .exact(h.sr u (j-1) b aa aa aa aa).trans c
 by_cases l:v=j
 .grind
 .by_cases b:u=j
  .rw[b];exact h.up v aa aa
  .exact h.sr u v c e aa b l
theorem Uu.step {d:Array α}{a j i:Nat}(h:Uu B A d a (j+1) i)(m:a<=j)(r:j+1<=i)(s:B d[j+1]! < B d[j]!)(t:i<d.size):Uu B A (swp d (j+1) j) a j i:=by
 have G:=λk=>swp_get d (i:=j+1) (j:=j) aa aa k;have n:(swp d (j+1) j)[j]! =d[j+1]! :=by rw[G,aR rfl]
 have b:(swp d (j+1) j)[j+1]! =d[j]! :=by grind
 have c:∀k,k≠j->k≠j+1->(swp d (j+1) j)[k]! =d[k]! :=by grind
 refine⟨λu v f g o p q=>?_,λv f g=>?_,λu f g=>?_⟩
 .by_cases l:u=j+1
  .rw[l,b,c v q aa];exact h.sr j v m aa o aa aa
  .by_cases e:v=j+1
   .rw[e,b,c u p l];exact h.sr u j f aa aa aa aa
   .rw[c u p l,c v q e];exact h.sr u v f g o l e
 .rw[n];by_cases e:v=j+1
  .rw[e,b];exact .inl s
  .rw[c v aa e];exact h.up v aa g
 .rw[n,c u aa aa];exact h.tg u f aa
structure SwR (d d':Array α)(a b n:Nat):Prop where
 sz:d'.size=d.size
 lf:∀t,t<n->d'[a+t]! =d[b+t]!
 rt:∀t,t<n->d'[b+t]! =d[a+t]!
 out:∀i,¬(a<=i/\i<a+n)->¬(b<=i/\i<b+n)->d'[i]! =d[i]!
theorem SwR.zero (d:Array α)(a b:Nat):SwR d d a b 0:=⟨rfl,λt h=>aa,λt h=>aa,λ_ _ _=>rfl⟩
theorem SwR.step {d e:Array α}{a b n:Nat}(h:SwR d e a b n)(l:a+n<b)(m:b+n<d.size):SwR d (swp e (a+n) (b+n)) a b (n+1):=by
 have f:=h.sz;have G:=λk=>swp_get e (i:=a+n) (j:=b+n) aa aa k;refine⟨by rw[swp_size];exact f,λt g=>?_,λt g=>?_,λi o p=>?_⟩
 .rw[G,aG aa];by_cases c:t=n
  .subst c;rw[aR rfl];exact h.out _ aa aa
  .rw[aG aa];exact h.lf t aa
 .rw[G];by_cases c:t=n
  .subst c;rw[aR rfl];exact h.out _ aa aa
  .rw[aG aa,aG aa];exact h.rt t aa
 .rw[G,aG aa,aG aa];exact h.out i aa aa
structure JF (d d':Array α)(lo m hi:Nat):Prop where
 sz:d'.size=d.size
 out:∀i,i<lo\/hi<=i->d'[i]! =d[i]!
 lf:∀t,t<hi-m->d'[lo+t]! =d[m+t]!
 rt:∀t,t<m-lo->d'[lo+(hi-m)+t]! =d[lo+t]!
theorem JF.mv {d e:Array α}{a m hi:Nat}(h:JF d e a m hi)(g:a<=m)(j:m<=hi):yV d e a hi:=by
 refine⟨h.sz,h.out,λx=>⟨?_,?_⟩⟩
 .rintro⟨i,c,f,rfl⟩;by_cases b:i-a<hi-m
  .have:=h.lf (i-a) b;rw[show a+(i-a)=i from by omega] at this;exact⟨m+(i-a),aa,aa,this.symm⟩
  .have:=h.rt (i-a-(hi-m)) aa;rw[show a+(hi-m)+(i-a-(hi-m))=i from by omega] at this;exact⟨a+(i-a-(hi-m)),aa,aa,this.symm⟩
 .rintro⟨i,c,f,rfl⟩;by_cases b:i<m
  .have:=h.rt (i-a) aa;rw[show a+(i-a)=i from by omega] at this;exact⟨a+(hi-m)+(i-a),aa,aa,this⟩
  .have:=h.lf (i-m) aa;rw[show m+(i-m)=i from by omega] at this;exact⟨a+(i-m),aa,aa,this⟩
theorem JF.more {d e f:Array α}{m i j:Nat}(hi:i<=m)(c:j<i)(h:SwR d e (m-i) m j)(a:JF e f (m-(i-j)) m (m+j)):JF d f (m-i) m (m+j):=by
 refine⟨a.sz.trans h.sz,λk l=>?_,λt g=>?_,λt g=>?_⟩
 .rw[a.out k aa];exact h.out k aa aa
 .rw[a.out _ aa];exact h.lf t aa
 .by_cases b:t<j
  .have:=a.lf t aa;rw[show m-(i-j)+t=m-i+(m+j-m)+t from by omega] at this;rw[this];exact h.rt t b
  .have:=a.rt (t-j) aa;rw[show m-(i-j)+(m+j-m)+(t-j)=m-i+(m+j-m)+t from by omega] at this;rw[this,show m-(i-j)+(t-j)=m-i+t from by omega];exact h.out _ aa aa
theorem JF.less {d e f:Array α}{m i j:Nat}(hi:i<=m)(b:i<j)(h:SwR d e (m-i) (m+j-i) i)(a:JF e f (m-i) m (m+(j-i))):JF d f (m-i) m (m+j):=by
 refine⟨a.sz.trans h.sz,λk l=>?_,λt c=>?_,λt c=>?_⟩
 .rw[a.out k aa];exact h.out k aa aa
 .by_cases g:t<j-i
  .have:=a.lf t aa;rw[this];exact h.out _ aa aa
  .have:=a.rt (t-(j-i)) aa;rw[show m-i+(m+(j-i)-m)+(t-(j-i))=m-i+t from by omega] at this;rw[this,h.lf _ aa,show m+j-i+(t-(j-i))=m+t from by omega]
 .have:=a.out (m-i+(m+j-m)+t) aa;rw[this,show m-i+(m+j-m)+t=m+j-i+t from by omega];exact h.rt t aa
theorem JF.last {d e:Array α}{m i:Nat}(hi:i<=m)(h:SwR d e (m-i) m i):JF d e (m-i) m (m+i):=by
 refine⟨h.sz,λk b=>h.out k aa aa,λt a=>h.lf t aa,λt a=>?_⟩;rw[show m-i+(m+i-m)+t=m+t from by omega];exact h.rt t aa
end
section
variable {α:Type}[Inhabited α]{B:α->Int}{A:α->Nat}
structure vW (key:α->Int)(tag:α->Nat)(d:Array α)(a m b:Nat):Prop where
 am:a<m
 mb:m<b
 sz:b<=d.size
 l:QA key tag d a m
 r:QA key tag d m b
 x:∀i j,a<=i->i<m->m<=j->j<b->tag d[i]! < tag d[j]!
structure wW (key:α->Int)(tag:α->Nat)(d d':Array α)(a b:Nat):Prop where
 mv:yV d d' a b
 s:QA key tag d' a b
theorem vW.less {d:Array α}{a m b:Nat}(h:vW B A d a m b){i j:Nat}(c:a<=i)(e:i<m)(f:m<=j)(g:j<b)(k:¬B d[j]! < B d[i]!):Cu B A d[i]! d[j]! :=by
 have:=h.x i j c e f g;unfold Cu;omega
theorem vW.carry {d e:Array α}{a m b u v:Nat}(h:vW B A d a m b)(c:yV d e u v)(n:v<=a\/b<=u):vW B A e a m b:=by
 refine⟨h.am,h.mb,by rw[c.sz];exact h.sz,c.srt h.l (by have:=h.mb;omega),c.srt h.r (by have:=h.am;omega),λi j f g k l=>?_⟩;have:=h.am;have:=h.mb;rw[c.out i aa,c.out j aa];exact h.x i j f g k l
structure ShL (d d':Array α)(a e:Nat):Prop where
 sz:d'.size=d.size
 mid:∀k,a<=k->k<e->d'[k]! =d[k+1]!
 last:d'[e]! =d[a]!
 out:∀k,k<a\/e<k->d'[k]! =d[k]!
theorem ShL.zero (d:Array α)(a:Nat):ShL d d a a:=⟨rfl,λk b c=>aa,rfl,λ_ _=>rfl⟩
theorem ShL.step {d e:Array α}{a k:Nat}(h:ShL d e a k)(c:a<=k)(l:k+1<d.size):ShL d (swp e k (k+1)) a (k+1):=by
 have f:=h.sz;have G:=λt=>swp_get e (i:=k) (j:=k+1) aa aa t;refine⟨by rw[swp_size];exact f,λt g m=>?_,by rw[G,aR rfl];exact h.last,λt n=>?_⟩
 .rw[G,aG aa];by_cases b:t=k
  .rw[aR b,b];exact h.out (k+1) aa
  .rw[aG b];exact h.mid t g aa
 .rw[G,aG aa,aG aa];exact h.out t aa
theorem ShL.mv {d c:Array α}{a e:Nat}(h:ShL d c a e)(g:a<=e):yV d c a (e+1):=by
 refine⟨h.sz,λi k=>h.out i aa,λx=>⟨?_,?_⟩⟩
 .rintro⟨i,f,j,rfl⟩;by_cases b:i=e
  .exact⟨a,aa,aa,by rw[b];exact h.last.symm⟩
  .exact⟨i+1,aa,aa,(h.mid i f aa).symm⟩
 .rintro⟨i,f,j,rfl⟩;by_cases b:i=a
  .exact⟨e,aa,aa,by rw[b];exact h.last⟩
  .have:=h.mid (i-1) aa aa;rw[show i-1+1=i from by omega] at this;exact⟨i-1,aa,aa,this⟩
theorem QC {d g:Array α}{a b i:Nat}(h:vW B A d a (a+1) b)(s:a+1<=i)(t:i<=b)(l:∀k,a+1<=k->k<i->B d[k]! < B d[a]!)(hi:∀k,i<=k->k<b->¬B d[k]! < B d[a]!)(hs:ShL d g a (i-1)):wW B A d g a b:=by
 refine⟨(hs.mv aa).mono az aa,λu v c e f=>?_⟩;have m:∀k,i<=k->k<b->Cu B A d[a]! d[k]! :=λk n j=>h.less az aa aa j (hi k n j);by_cases o:v<i-1
 .rw[hs.mid u c aa,hs.mid v aa o];exact h.r _ _ aa aa aa
 .by_cases p:v=i-1
  .rw[hs.mid u c aa,p,hs.last];exact .inl (l _ aa aa)
  .rw[hs.out v aa];by_cases q:u<i-1
   .rw[hs.mid u c q];exact h.r _ _ aa aa f
   .by_cases r:u=i-1
    .rw[r,hs.last];exact m v aa f
    .rw[hs.out u aa];exact h.r _ _ aa e f
structure ShD (d d':Array α)(k m:Nat):Prop where
 sz:d'.size=d.size
 mid:∀t,k<t->t<=m->d'[t]! =d[t-1]!
 first:d'[k]! =d[m]!
 out:∀t,t<k\/m<t->d'[t]! =d[t]!
theorem ShD.zero (d:Array α)(m:Nat):ShD d d m m:=⟨rfl,λk a b=>aa,rfl,λ_ _=>rfl⟩
theorem ShD.step {d e:Array α}{k m:Nat}(h:ShD d e (k+1) m)(f:k+1<=m)(g:m<d.size):ShD d (swp e (k+1) k) k m:=by
 have b:=h.sz;have G:=λt=>swp_get e (i:=k+1) (j:=k) aa aa t;refine⟨by rw[swp_size];exact b,λt l c=>?_,by rw[G,aR rfl];exact h.first,λt n=>?_⟩
 .rw[G,aG aa];by_cases a:t=k+1
  .rw[aR a,a];exact h.out k aa
  .rw[aG a];exact h.mid t aa c
 .rw[G,aG aa,aG aa];exact h.out t aa
theorem ShD.mv {d b:Array α}{k m:Nat}(h:ShD d b k m)(f:k<=m):yV d b k (m+1):=by
 refine⟨h.sz,λi g=>h.out i aa,λx=>⟨?_,?_⟩⟩
 .rintro⟨i,c,e,rfl⟩;by_cases a:i=k
  .exact⟨m,aa,aa,by rw[a];exact h.first.symm⟩
  .exact⟨i-1,aa,aa,(h.mid i aa aa).symm⟩
 .rintro⟨i,c,e,rfl⟩;by_cases a:i=m
  .exact⟨k,aa,aa,by rw[a];exact h.first⟩
  .exact⟨i+1,aa,aa,by rw[h.mid (i+1) aa aa];simp⟩
theorem Uv {d e:Array α}{a m i:Nat}(h:vW B A d a m (m+1))(j:a<=i)(l:i<=m)(n:∀k,a<=k->k<i->¬B d[m]! < B d[k]!)(hi:∀k,i<=k->k<m->B d[m]! < B d[k]!)(hs:ShD d e i m):wW B A d e a (m+1):=by
 refine⟨(hs.mv l).mono j az,λu v b c s=>?_⟩;have o:∀k,a<=k->k<i->Cu B A d[k]! d[m]! :=λk f p=>h.less f aa az aa (n k f p);by_cases q:u<i
 .rw[hs.out u aa];by_cases g:v<i
  .rw[hs.out v aa];exact h.l _ _ b c aa
  .by_cases r:v=i
   .rw[r,hs.first];exact o u b q
   .rw[hs.mid v aa aa];exact h.l _ _ b aa aa
 .rw[hs.mid v aa aa];by_cases g:u=i
  .rw[g,hs.first];exact .inl (hi _ aa aa)
  .rw[hs.mid u aa aa];exact h.l _ _ aa aa aa
structure EO (key:α->Int)(d:Array α)(a m b n s0 r0 s r:Nat):Prop where
 w:(n-m<m/\s0=n-b/\r0=n-m)\/(m<=n-m/\s0=a/\r0=m)
 nm:n=(a+b)/2+m
 s1:s0<=s
 s2:s<=r
 s3:r<=r0
 lo:∀c,s0<=c->c<s->¬key d[n-1-c]! < key d[c]!
 hi:∀c,r<=c->c<r0->key d[n-1-c]! < key d[c]!
theorem EO.up {d:Array α}{a m b n e f s r c:Nat}(h:EO B d a m b n e f s r)(hp:vW B A d a m b)(g:s<=c)(i:c<r)(j:¬B d[n-1-c]! < B d[c]!):EO B d a m b n e f (c+1) r:=by
 refine⟨h.w,h.nm,by have:=h.s1;omega,aa,h.s3,λx k l=>?_,h.hi⟩;by_cases o:x=c
 .grind
 .have p:=h.w;have q:=h.nm;have t:=h.s3;have u:=hp.am;have v:=hp.mb;have w:=(hp.l x c aa aa aa).le;have y:=(hp.r (n-1-c) (n-1-x) aa aa aa).le;omega
theorem EO.down {d:Array α}{a m b n e f s r c:Nat}(h:EO B d a m b n e f s r)(hp:vW B A d a m b)(g:s<=c)(i:c<r)(j:B d[n-1-c]! < B d[c]!):EO B d a m b n e f s c:=by
 refine⟨h.w,h.nm,h.s1,g,by have:=h.s3;omega,h.lo,λx k l=>?_⟩;by_cases o:x=c
 .grind
 .have p:=h.w;have q:=h.nm;have t:=h.s3;have u:=hp.am;have v:=hp.mb;have w:=h.s1;have y:=(hp.l c x aa aa aa).le;have z:=(hp.r (n-1-x) (n-1-c) aa aa aa).le;omega
structure He (key:α->Int)(tag:α->Nat)(d:Array α)(a s mid e b:Nat):Prop where
 h1:a<s/\s<mid->vW key tag d a s mid
 h1':¬(a<s/\s<mid)->QA key tag d a mid
 h2:mid<e/\e<b->vW key tag d mid e b
 h2':¬(mid<e/\e<b)->QA key tag d mid b
 x:∀u v,a<=u->u<mid->mid<=v->v<b->Cu key tag d[u]! d[v]!
theorem EO.turn {d f:Array α}{a m b n S T s c:Nat}(h:EO B d a m b n S T s s)(hp:vW B A d a m b)(l:JF d f s m (n-s))(M:c=(a+b)/2):He B A f a s c (n-s) b:=by
 have V:=h.w;have W:=h.nm;have X:=h.s3;have Y:=hp.am;have Z:=hp.mb;have q6:=h.s1;have qz:=hp.sz;have D:∀i,i<s->f[i]! =d[i]! :=λi H=>l.out i (.inl H);have q:∀i,n-s<=i->f[i]! =d[i]! :=λi H=>l.out i (.inr H);have E:∀i,s<=i->i<c->f[i]! =d[m+(i-s)]! :=λi r t=>by
  have:=l.lf (i-s) aa;rwa[show s+(i-s)=i from by omega] at this
 have w:∀i,c<=i->i<n-s->f[i]! =d[s+(i-c)]! :=λi r t=>by
  have:=l.rt (i-c) aa;rwa[show s+(n-s-m)+(i-c)=i from by omega] at this
 have x:∀u v,a<=u->u<v->v<m->Cu B A d[u]! d[v]! :=hp.l;have y:∀u v,m<=u->u<v->v<b->Cu B A d[u]! d[v]! :=hp.r;have N:QA B A f a s:=λu v e o p=>by rw[D u aa,D v aa];exact x u v e o aa
 have O:QA B A f s c:=λu v e o p=>by rw[E u aa aa,E v aa aa];exact y _ _ aa aa aa
 have P:QA B A f c (n-s):=λu v e o p=>by rw[w u aa aa,w v aa aa];exact x _ _ aa aa aa
 have Q:QA B A f (n-s) b:=λu v e o p=>by rw[q u aa,q v aa];exact y _ _ aa aa aa
 refine⟨λg=>⟨g.1,g.2,by rw[l.sz];omega,N,O,λi j r t I J=>?_⟩,λg=>?_,λg=>⟨g.1,g.2,by rw[l.sz];omega,P,Q,λi j r t I J=>?_⟩,λg=>?_,λu v e o p R=>?_⟩
 .rw[D i t,E j I J];exact hp.x _ _ r aa aa aa
 .by_cases K:s=a
  .rw[<- K];exact O
  .rw[show c=s from by omega];exact N
 .rw[w i r t,q j I];exact hp.x _ _ aa aa aa J
 .by_cases K:n-s=b
  .rw[<- K];exact P
  .rw[show c=n-s from by omega];exact Q
 .by_cases U:u<s
  .rw[D u U];by_cases L:v<n-s
   .rw[w v p L];exact x _ _ e aa aa
   .rw[q v aa];have F:=h.lo (s-1) aa aa;rw[show n-1-(s-1)=n-s from by omega] at F;have z:=hp.less (i:=s-1) (j:=n-s) aa aa aa aa F;have C:Cu B A d[u]! d[n-s]! :=by
     by_cases k:u=s-1
     .rw[k];exact z
     .exact(x u (s-1) e aa aa).trans z
    by_cases k:v=n-s
    .rw[k];exact C
    .exact C.trans (y _ _ aa aa R)
  .rw[E u aa o];by_cases L:v<n-s
   .rw[w v p L];have F:=h.hi s az aa;have z:Cu B A d[n-1-s]! d[s]! := .inl F;have C:Cu B A d[m+(u-s)]! d[s]! :=by
     by_cases k:m+(u-s)=n-1-s
     .rw[k];exact z
     .exact(y _ _ aa aa aa).trans z
    by_cases k:s+(v-c)=s
    .rw[k];exact C
    .exact C.trans (x _ _ aa aa aa)
   .rw[q v aa];exact y _ _ aa aa R
theorem He.done {d e f:Array α}{a s c t b:Nat}(h:He B A d a s c t b)(l:a<=c)(m:c<=b)(i:wW B A d e a c)(g:wW B A e f c b):wW B A d f a b:=by
 refine⟨(i.mv.mono az m).trans (g.mv.mono l az),λu v n o p=>?_⟩;by_cases q:v<c
 .rw[g.mv.out u aa,g.mv.out v aa];exact i.s u v n o q
 .by_cases r:c<=u
  .exact g.s u v r o p
  .rw[g.mv.out u aa];obtain⟨k,w,x,y⟩:=(i.mv.same _).1 ⟨u,n,aa,rfl⟩;obtain⟨j,z,C,D⟩:=(g.mv.same _).1 ⟨v,aa,p,rfl⟩;rw[<- y,<- D,i.mv.out j aa];exact h.x k j w x z C
theorem JF.none {d:Array α}{s m e:Nat}(h:¬(s<m/\m<e))(b:s<=m)(c:m<=e):JF d d s m e:=by
 refine⟨rfl,λ_ _=>rfl,λt a=>?_,λt a=>?_⟩
 .grind
 .grind
inductive rP (key:α->Int) (tag:α->Nat) (d:Array α) (bs n:Nat):Nat->Prop
 |stop {a:Nat} (h:n<=a):rP key tag d bs n a
 |run {a:Nat} (h:a<n) (s:QA key tag d a (min (a+bs) n)) (t:∀i,a<=i->i<min (a+bs) n->a<=tag d[i]! /\ tag d[i]! < a+bs) (r:rP key tag d bs n (a+bs)):rP key tag d bs n a
theorem rP.carry {d e:Array α}{f n a:Nat}(h:rP B A d f n a):∀(_:∀i,a<=i->i<n->e[i]! =d[i]!),rP B A e f n a:=by
 induction h with
 |stop h=>exact λ_=>.stop h
 |run h s t r j=>
  intro b;refine .run h (λu v c g k=>?_) (λi c g=>?_) (j (λi m l=>b i aa l))
  .rw[b u c aa,b v aa aa];exact s u v c g k
  .grind
def r9 (B:α->Int)(A:α->Nat)(d:Array α)(b n a:Nat):Prop:=∀e:Array α,(∀i,i<a->e[i]! =d[i]!)->rP B A e b n a->rP B A e b n 0
theorem r9.zero (d:Array α)(a n:Nat):r9 B A d a n 0:=λ_ _ h=>h
theorem r9.done {d:Array α}{b n a:Nat}(h:r9 B A d b n a)(c:rP B A d b n a):rP B A d b n 0:=h d (λ_ _=>rfl) c
theorem r9.more {d e:Array α}{b n a:Nat}(h:r9 B A d b n a)(g:a<n)(m:yV d e a (min (a+b) n))(hs:QA B A e a (min (a+b) n))(r:∀i,a<=i->i<min (a+b) n->a<=A d[i]! /\ A d[i]! < a+b):r9 B A e b n (a+b):=λf c o=>by
 refine h f (λi p=>(c i aa).trans (m.out i (.inl p))) (.run g (λu v j l q=>?_) (λi j l=>?_) o)
 .rw[c u aa,c v aa];exact hs u v j l q
 .rw[c i aa];obtain⟨k,s,t,w⟩:=(m.same _).1 ⟨i,j,l,rfl⟩;grind
theorem rP.pre {d:Array α}{c n a b:Nat}(h:rP B A d c n a)(g:0<c)(o:b=min (a+2*c) n)(p:a+c<n)(q:n<=d.size):vW B A d a (a+c) b/\(∀i,a<=i->i<b->a<=A d[i]! /\ A d[i]! < a+2*c)/\rP B A d c n (a+2*c):=by
 cases h with
 |stop h=>omega
 |run h s t r=>
  cases r with
  |stop h=>omega
  |run u e k f=>
   rw[show min (a+c) n=a+c from by omega] at s t;rw[show min (a+c+c) n=b from by omega] at e k;rw[show a+c+c=a+2*c from by omega] at f;refine⟨⟨aa,aa,aa,s,e,λi j l m v w=>?_⟩,λi l m=>?_,f⟩
   .grind
   .grind
theorem rP.single {d:Array α}{b n a:Nat}(h:rP B A d b n a)(c:n<=a+b):rP B A d (2*b) n a:=by
 cases h with
 |stop h=>exact .stop h
 |run h s t r=>
  refine .run h ?_ (λi e f=>?_) (.stop aa)
  .grind
  .grind
theorem rP.whole {d:Array α}{a n:Nat}(h:rP B A d a n 0)(b:n<=a):QA B A d 0 n:=by
 cases h with
 |stop h=>exact λu v c e f=>aa
 |run h s t r=>rw[show min (0+a) n=n from by omega] at s;exact s
end
end
open Go.RowKit Go.Shelf Go.Sort Go.Lib
set_option maxRecDepth 100000
structure S5 where
 nd:Int
 o:Option Addr
 len:Nat
 cap:Nat
 fill:aO
 rule:aO
 lv:Int
 tag:Nat
instance:Inhabited S5:=⟨⟨0,none,0,0,⟨#[]⟩,⟨#[]⟩,0,0⟩⟩
def zB (x:S5):List ax:=[ag x.nd,aj x.o x.len x.cap,au x.fill,au x.rule,ag x.lv]
theorem aby (x:S5):(zB x).length=5:=rfl
abbrev uD (w0:ai)(a off:Nat)(d:Array S5)(W:ai):Prop:=SWK zB 5 w0 a off d W
theorem uD.drew {w0 W:ai}{a off:Nat}{d:Array S5}(h:uD w0 a off d W):uD w0 a off d W.drew:=SWK.drewN h 1
section
variable {w0:ai}{A off:Nat}{B:Array S5}
structure C5 (w:ai)(b o:Nat)(x:S5):Prop where
 c0:w.cell? (aJ b o)=some (ag x.nd)
 c1:w.cell? (aJ b (o+1))=some (aj x.o x.len x.cap)
 c2:w.cell? (aJ b (o+2))=some (au x.fill)
 c3:w.cell? (aJ b (o+3))=some (au x.rule)
 c4:w.cell? (aJ b (o+4))=some (ag x.lv)
 f0:w.frozen? ⟨b,o,none⟩=false
 f1:w.frozen? ⟨b,o+1,none⟩=false
 f2:w.frozen? ⟨b,o+2,none⟩=false
 f3:w.frozen? ⟨b,o+3,none⟩=false
 f4:w.frozen? ⟨b,o+4,none⟩=false
theorem pO {d:Array S5}{W:ai}(h:uD w0 A off d W)(a:A<w0.heap.size)(b:HoldsK zB 5 w0 A off B)(hs:d.size=B.size){i:Nat}(hi:i<d.size):C5 W A (off+i*5) d[i]! :=by
 have H:=λc e=>HoldsK.cell (SWK.holds h a b hs) (i:=i) hi (c:=c) e;obtain⟨f,g⟩:=H 0 aC;obtain⟨j,k⟩:=H 1 aC;obtain⟨l,m⟩:=H 2 aC;obtain⟨n,o⟩:=H 3 aC;obtain⟨p,q⟩:=H 4 aC;exact⟨f,j,l,n,p,g,k,m,o,q⟩
theorem Fs {e:Array S5}{wr:ai}(hE:uD w0 A off e wr)(a:A<w0.heap.size){i j:Nat}(hi:i<e.size)(d:j<e.size):
  uD w0 A off (swp e i j) ((((((((((wr.setCell ⟨A,off+i*5,none⟩ (ag e[j]!.nd)).setCell ⟨A,off+i*5+1,none⟩ (aj e[j]!.o e[j]!.len e[j]!.cap)).setCell ⟨A,off+i*5+2,none⟩ (au e[j]!.fill)).setCell ⟨A,off+i*5+3,none⟩ (au e[j]!.rule)).setCell ⟨A,off+i*5+4,none⟩ (ag e[j]!.lv)).setCell ⟨A,off+j*5,none⟩ (ag e[i]!.nd)).setCell ⟨A,off+j*5+1,none⟩ (aj e[i]!.o e[i]!.len e[i]!.cap)).setCell ⟨A,off+j*5+2,none⟩ (au e[i]!.fill)).setCell ⟨A,off+j*5+3,none⟩ (au e[i]!.rule)).setCell ⟨A,off+j*5+4,none⟩ (ag e[i]!.lv)).drew:=by
 obtain⟨m,b,rfl⟩:=hE;have h:=sortWorldK_swp_c zB 5 w0 A off aby m e b a i j hi d;have c:((((sortWorldK zB 5 w0 A off m e b).drewN 1).setCells A (off+i*5) (zB e[j]!)).setCells A (off+j*5) (zB e[i]!))=sortWorldK zB 5 w0 A off (m+1) (swp e i j) b:=h;rw[setCells_drewN,setCells_drewN] at c;exact⟨m+1,b,c⟩
theorem JR (c:A<w0.heap.size)(q:HoldsK zB 5 w0 A off B)(hz:B.size<=1000){d:Array S5}(hs:d.size=B.size){W:ai}(r:uD w0 A off d W)(k a b n:Nat)(v:a+n<=b)(hb:b+n<=d.size)(l:ax):
  aL 330 #[aj (some ⟨A,off,none⟩) B.size k,ag a,ag b,ag n,l] W λe w'=>e=ay (aH #[])/\∃s,SwR d s a b n/\uD w0 A off s w':=by
 have w:=aF r;have t:=aF q;clear r q;go_enter func330,ntmps330;go_wp2
 go_loopw [10] (λy wr=>∃(i:Nat) (e:Array S5),y=ag i/\i<=n/\SwR d e a b i/\uD w0 A off e wr) (λy _=>n-(intOf y).toNat)
 case atStart=>exact⟨0,d,rfl,bA _,SwR.zero _ _ _,w.out⟩
 case round=>
  obtain⟨i,e,rfl,z,m,hE⟩:=hrel;have u:=aF m;have C:=aF hE;have h:e.size=d.size:=m.sz;by_cases D:i<n
  .have o:(i:Int)<(n:Int):=aa;obtain⟨E,F,H,I,J,K,L,M,N,O⟩:=pO hE c t.out (h.trans hs) (i:=a+i) aa;obtain⟨P,Q,R,S,T,U,V,X,Y,Z⟩:=pO hE c t.out (h.trans hs) (i:=b+i) aa;have ea:IntKind.i64.wrap ((a:Int)+(i:Int))=((a+i:Nat):Int):=by rw[jI];omega
   have eb:IntKind.i64.wrap ((b:Int)+(i:Int))=((b+i:Nat):Int):=by rw[jI];omega
   have p:Hid _:=Fs hE c (i:=a+i) (j:=b+i) aa aa;clear m hE;have ja:((a+i:Nat):Int)<(B.size:Int):=aa;have jb:((b+i:Nat):Int)<(B.size:Int):=aa;obtain⟨xa,f⟩:∃x,e[a+i]! =x:=⟨_,rfl⟩;obtain⟨xb,g⟩:∃x,e[b+i]! =x:=⟨_,rfl⟩;rw[f] at E F H I J p;rw[g] at P Q R S T p;have CC:Hid (e[a+i]! =xa/\e[b+i]! =xb):=⟨f,g⟩;clear f g;go_wp2_with fail
   go_big_region
   all_goals go_wp2
   go_roundw
   case rel=>
    refine⟨i+1,swp e (a+i) (b+i),by go_num,D,u.out.step aa aa,?_⟩;exact p.out
   case measure=>simp[intOf];omega
  .have o:¬(i:Int)<(n:Int):=aa;obtain rfl:i=n:=aa;go_wp2
   go_end0
   exact⟨rfl,e,u.out,C.out⟩
end
section
variable {w0:ai}{A off:Nat}{B:Array S5}
theorem Uw (l:A<w0.heap.size)(E:HoldsK zB 5 w0 A off B)(J:B.size<=1000){d:Array S5}(hs:d.size=B.size){W:ai}(F:uD w0 A off d W)(o a m b:Nat)(K:a<m)(L:m<b)(Y:b<=d.size)(p:ax):
  aL 268 #[aj (some ⟨A,off,none⟩) B.size o,ag a,ag m,ag b,p] W λe w'=>e=ay (aH #[])/\∃g,JF d g a m b/\uD w0 A off g w':=by
 have H:=λ(e:Array S5) (M:e.size=B.size) (V:ai) (N:uD w0 A off e V) (x y n:Nat) (O:x+n<=y) (P:y+n<=e.size)=>JR l E J M N o x y n O P p;have s:Hid _:=H;have Q:=aF F;clear H F E;go_enter func268,ntmps268;have Z:IntKind.i64.wrap ((m:Int)-(a:Int))=((m-a:Nat):Int):=by rw[jI];omega
 have e2:IntKind.i64.wrap ((b:Int)-(m:Int))=((b-m:Nat):Int):=by rw[jI];omega
 go_upto_region 2 with fail
 go_loopw [10,11] (λx y wr=>∃(i j:Nat) (e:Array S5),x=ag i/\y=ag j/\0<i/\0<j/\i<=m-a/\j<=b-m/\e.size=d.size/\(∀f,JF e f (m-i) m (m+j)->JF d f a m b)/\uD w0 A off e wr) (λx y _=>(intOf x).toNat+(intOf y).toNat)
 case atStart=>exact⟨m-a,b-m,d,by go_num,by go_num,aa,aa,bJ _,bJ _,rfl,λf h=>by rwa[show m-(m-a)=a from by omega,show m+(b-m)=b from by omega] at h,Q.out⟩
 case round=>
  obtain⟨i,j,e,rfl,rfl,t,u,R,S,c,I,hE⟩:=hrel;have v:=aF I;clear I;have w:IntKind.i64.wrap ((m:Int)-(i:Int))=((m-i:Nat):Int):=by rw[jI];omega
  by_cases z:i=j
  .subst z;have T:((i:Int)==(i:Int))=true:=aI;have q:=s.out e (c.trans hs) wr hE (m-i) m i aa aa;clear hE;go_wp2_with(go_at_call 330;refine q.mono ?_;rintro e w ⟨rfl,g,k,r⟩)
   go_end0
   exact⟨rfl,g,v.out _ (JF.last aa k),r⟩
  .have T:((i:Int)==(j:Int))=false:=bq;by_cases C:j<i
   .have U:(j:Int)<(i:Int):=aa;have q:=s.out e (c.trans hs) wr hE (m-i) m j aa aa;have X:IntKind.i64.wrap ((i:Int)-(j:Int))=((i-j:Nat):Int):=by rw[jI];omega
    clear hE;go_wp2_with(go_at_call 330;refine q.mono ?_;rintro e w ⟨rfl,g,k,r⟩)
    go_roundw
    case rel=>exact⟨i-j,j,g,by go_num,rfl,aa,u,aa,S,k.sz.trans c,λf D=>v.out f (JF.more aa C k D),r⟩
    case measure=>simp[intOf];omega
   .have U:¬(j:Int)<(i:Int):=aa;have q:=s.out e (c.trans hs) wr hE (m-i) (m+j-i) i aa aa;have X:IntKind.i64.wrap ((j:Int)-(i:Int))=((j-i:Nat):Int):=by rw[jI];omega
    have w4:IntKind.i64.wrap ((m:Int)+(j:Int)-(i:Int))=((m+j-i:Nat):Int):=by rw[jI];omega
    clear hE;go_wp2_with(go_at_call 330;refine q.mono ?_;rintro e w ⟨rfl,g,k,r⟩)
    go_roundw
    case rel=>exact⟨i,j-i,g,rfl,by go_num,t,aa,R,aa,k.sz.trans c,λf D=>v.out f (JF.less aa aa k D),r⟩
    case measure=>simp[intOf];omega
end
theorem Nh:prog.follows .mixedOrders=true:=aA
abbrev uT:ax:=.func (.func 80) #[] #[]
abbrev s5A (x:S5):Array ax:=#[ag x.nd,aj x.o x.len x.cap,au x.fill,au x.rule,ag x.lv]
theorem Ni (x y:Int)(w:ai):
  aL 81 #[ag x,ag y] w λe w'=>e=ay (ag (JJ (x-y)))/\w'=w:=by
 rcases Int.lt_trichotomy x y with h|h|h
 .have e:JJ (x-y)= -1:=by unfold JJ;rw[aR aa]
  rw[e];have a:¬x>y:=aa;go_enter func81,ntmps81;go_wp2;go_ret;exact⟨rfl,rfl⟩
 .subst h;have e:JJ (x-x)=0:=by unfold JJ;simp
  rw[e];have a:¬x>x:=aa;go_enter func81,ntmps81;go_wp2;go_ret;exact⟨rfl,rfl⟩
 .have e:JJ (x-y)=1:=by unfold JJ;rw[aG aa,aR aa]
  rw[e];have a:¬x<y:=aa;go_enter func81,ntmps81;go_wp2;go_ret;exact⟨rfl,rfl⟩
theorem a2z (x y:S5)(V:ai):
  aL 80 #[.agg (s5A x),.agg (s5A y)] V λe w'=>e=ay (ag (JJ (x.lv-y.lv)))/\∃q a,w'=grow (V.drewN q) a:=by
 have b:=Ni x.lv y.lv;go_enter func80,ntmps80;go_wp2_with(go_at_call 81;refine(b _).mono ?_;rintro e c ⟨rfl,rfl⟩);go_ret;refine⟨rfl,0,#[ak (s5A x) 115,ak (s5A y) 115],?_⟩;rw[alloc_eq_grow,alloc_eq_grow,grow_grow];rfl
section
variable {w0:ai}{A off:Nat}{B:Array S5}
theorem a7g (b:ai)(x y:S5):∀n c,aL 80 #[.agg (s5A x),.agg (s5A y)] (grow (b.drewN n) c) λe w'=>e=ay (ag (JJ (x.lv-y.lv)))/\∃q a,w'=grow ((grow (b.drewN n) c).drewN q) a:=λ_ _=>a2z x y _
structure G5 (wq:ai)(b o:Nat)(x:S5):Prop where
 c0:∀n os,(grow (wq.drewN n) os).cell? (aJ b o)=some (ag x.nd)
 c1:∀n os,(grow (wq.drewN n) os).cell? (aJ b (o+1))=some (aj x.o x.len x.cap)
 c2:∀n os,(grow (wq.drewN n) os).cell? (aJ b (o+2))=some (au x.fill)
 c3:∀n os,(grow (wq.drewN n) os).cell? (aJ b (o+3))=some (au x.rule)
 c4:∀n os,(grow (wq.drewN n) os).cell? (aJ b (o+4))=some (ag x.lv)
theorem C5.all {W:ai}{b o:Nat}{x:S5}(h:C5 W b o x)(a:b<W.heap.size):G5 W b o x:=
 ⟨cell_grown a h.c0,cell_grown a h.c1,cell_grown a h.c2,cell_grown a h.c3,cell_grown a h.c4⟩
theorem uD.grown {d:Array S5}{W:ai}(h:uD w0 A off d W)(n:Nat)(b:Array Obj):uD w0 A off d (grow (W.drewN n) b):=by
 obtain⟨m,a,rfl⟩:=h;exact⟨m+n,a++b,sortWorldK_grown_c zB 5 w0 A off m n d a b⟩
theorem xP {x y:Int}(h:x<y):JJ (x-y)<0:=by unfold JJ;rw[aR aa];decide
theorem xQ {x y:Int}(h:¬x<y):¬JJ (x-y)<0:=by unfold JJ;rw[aG aa];split<;>decide
def SFr (w0:ai)(A off:Nat)(d:Array S5)(a hi:Nat)(P Q:Nat->Prop)(x y:ax)(wr:ai):Prop:=∃(i j:Nat),x=ag i/\y=ag j/\a<=i/\i<=j/\j<=hi/\(∀k,a<=k->k<i->P k)/\(∀k,j<=k->k<hi->Q k)/\uD w0 A off d wr
def SFk (w0:ai)(A off:Nat)(d:Array S5)(a e:Nat)(x:ax)(wr:ai):Prop:=∃(k:Nat) (f:Array S5),x=ag k/\a<=k/\k<=e/\ShL d f a k/\uD w0 A off f wr
def SyR (w0:ai)(A off:Nat)(d:Array S5)(a b:Nat)(e:Ending)(w':ai):Prop:=e=ay (aH #[])/\∃c,wW S5.lv S5.tag d c a b/\uD w0 A off c w'
theorem Za (c:A<w0.heap.size)(q:HoldsK zB 5 w0 A off B)(hz:B.size<=1000){d:Array S5}(hs:d.size=B.size){W:ai}(hW:uD w0 A off d W)(R a m b:Nat)(hm:m=a+1)(hp:vW S5.lv S5.tag d a m b):
  aL 197 #[aj (some ⟨A,off,none⟩) B.size R,ag a,ag m,ag b,uT] W λe w'=>SyR w0 A off d a b e w':=by
 have S:=Nh;have HW:=aF hW;have P:=aF q;have T:=aF hp;have HM:=aF hm;have q1:=hp.mb;have q2:=hp.sz;clear hW q;have e1:IntKind.i64.wrap ((m:Int)-(a:Int))=1:=by rw[jI];omega
 have q3:=hp.am;clear hm hp;go_enter func197,ntmps197;go_upto_region 3 with fail
 go_loopw [10,11] (λx y wr=>SFr w0 A off d m b (λk=>d[k]!.lv<d[a]!.lv) (λk=>d[a]!.lv<=d[k]!.lv) x y wr) (λx y _=>(intOf y).toNat-(intOf x).toNat)
 case atStart=>exact⟨m,b,rfl,rfl,bJ _,aa,bJ _,λk h1 h2=>aa,λk h1 h2=>aa,HW.out⟩
 case round=>
  obtain⟨i,j,rfl,rfl,t,a7,u,w,z,hE⟩:=hrel;have C:=aF w;have D:=aF z;have U:=aF hE;clear w z;by_cases V:i<j
  .have n:(i:Int)<(j:Int):=aa;obtain⟨h,hh⟩:∃h,(i+j)/2=h:=⟨_,rfl⟩;have X:((i:Int)+(j:Int))/2=(h:Int):=aa;go_upto_region 5 with fail;have Ba:i<=h/\h<j:=aa;clear X hh;have E:A<wr.heap.size:=SWK.lt hE c;obtain⟨Y,Z,c2,c3,c4⟩:=(pO hE c P.out hs (i:=h) aa).all E;obtain⟨F,H,I,J,K⟩:=(pO hE c P.out hs (i:=a) aa).all E;have jh:(h:Int)<(B.size:Int):=aa;have ja:(a:Int)<(B.size:Int):=aa;obtain⟨L,o⟩:∃x,d[h]! =x:=⟨_,rfl⟩;obtain⟨r,g⟩:∃x,d[a]! =x:=⟨_,rfl⟩;rw[o] at Y Z c2 c3 c4;rw[g] at F H I J K;have l:=a7g wr L r;have Q:Hid (d[h]! =L/\d[a]! =r):=⟨o,g⟩;clear hE o g;by_cases s:L.lv<r.lv
   .have p:=xP s;have M:Hid (d[h]!.lv<d[a]!.lv):=by rw[Q.out.1,Q.out.2];exact s
    generalize JJ (L.lv-r.lv)=sv at p l
    go_quiet_grown (first|(go_at_call 80;exact Calls.grown_of (l _ _)))
    clear Y Z c2 c3 c4 F H I J K l s;go_wp2_with fail
    go_roundw
    case rel=>
     refine⟨h+1,j,by go_num,rfl,aa,aa,u,λk k1 k2=>?_,D.out,U.out.grown nq osq⟩;by_cases q:k=h
     .rw[q];exact M.out
     .have:=(T.out.r k h aa aa aa).le;have:=M.out;show d[k]!.lv<d[a]!.lv;omega
    case measure=>simp[intOf];omega
   .have p:=xQ s;have M:Hid (d[a]!.lv<=d[h]!.lv):=by rw[Q.out.1,Q.out.2];exact Int.not_lt.1 s
    generalize JJ (L.lv-r.lv)=sv at p l
    go_quiet_grown (first|(go_at_call 80;exact Calls.grown_of (l _ _)))
    clear Y Z c2 c3 c4 F H I J K l s;go_wp2_with fail
    go_roundw
    case rel=>
     refine⟨i,h,rfl,rfl,t,aa,aa,C.out,λk k1 k2=>?_,U.out.grown nq osq⟩;by_cases q:k=h
     .rw[q];exact M.out
     .have:=(T.out.r h k aa aa aa).le;have:=M.out;show d[a]!.lv<=d[k]!.lv;omega
    case measure=>simp[intOf];omega
  .have n:¬(i:Int)<(j:Int):=aa;obtain rfl:i=j:=aa;clear hE n V;go_upto_region 9 with fail
   go_loopw [13] (λx wr=>SFk w0 A off d a (i-1) x wr) (λx _=>i-(intOf x).toNat)
   case atStart=>exact⟨a,d,rfl,bJ _,aa,ShL.zero _ _,U.out⟩
   case round=>
    obtain⟨k,f,rfl,a5,a8,hS,hE⟩:=hrel;have HS:=aF hS;have HF:=aF hE;have N:f.size=d.size:=hS.sz;by_cases a9:k<i-1
    .have a6:(k:Int)<(i:Int)-1:=aa;obtain⟨a0,a1,a2,a3,a4,b5,b6,b7,b8,b9⟩:=pO hE c P.out (N.trans hs) (i:=k) aa;obtain⟨F,H,I,J,K,c5,c6,c7,c8,c9⟩:=pO hE c P.out (N.trans hs) (i:=k+1) aa;have EQ:Hid _:=Fs hE c (i:=k) (j:=k+1) aa aa;have ja:(k:Int)<(B.size:Int):=aa;have jb:(k:Int)+1<(B.size:Int):=aa;obtain⟨r,g⟩:∃x,f[k]! =x:=⟨_,rfl⟩;obtain⟨xb,O⟩:∃x,f[k+1]! =x:=⟨_,rfl⟩;rw[g] at a0 a1 a2 a3 a4 EQ;rw[O] at F H I J K EQ;clear hS hE g O;go_wp2_with fail
     go_big_region
     all_goals go_wp2
     go_roundw
     case rel=>
      refine⟨k+1,swp f k (k+1),by go_num,aa,aa,HS.out.step a5 aa,?_⟩;exact EQ.out
     case measure=>simp[intOf];omega
    .have a6:¬(k:Int)<(i:Int)-1:=aa;obtain rfl:k=i-1:=aa;clear hS hE;go_wp2;refine bg (v:=aH #[]) (by simp[results,results197,go_sem]) rfl ⟨rfl,f,?_,HF.out⟩;obtain rfl:=HM.out;exact QC T.out t u C.out (λk k1 k2=>Int.not_lt.2 (D.out k k1 k2)) HS.out
end
section
variable {w0:ai}{A off:Nat}{B:Array S5}
def SFd (w0:ai)(A off:Nat)(d:Array S5)(i m:Nat)(x:ax)(wr:ai):Prop:=∃(k:Nat) (f:Array S5),x=ag k/\i<=k/\k<=m/\ShD d f k m/\uD w0 A off f wr
theorem a2A (c:A<w0.heap.size)(r:HoldsK zB 5 w0 A off B)(hz:B.size<=1000){d:Array S5}(hs:d.size=B.size){W:ai}(hW:uD w0 A off d W)(U a m b:Nat)(V:m≠a+1)(hm:b=m+1)(hp:vW S5.lv S5.tag d a m b):
  aL 197 #[aj (some ⟨A,off,none⟩) B.size U,ag a,ag m,ag b,uT] W λe w'=>SyR w0 A off d a b e w':=by
 have X:=Nh;have HW:=aF hW;have S:=aF r;have Y:=aF hp;have HM:=aF hm;have q1:=hp.mb;have q2:=hp.sz;clear hW r;have q3:=hp.am;obtain⟨L,hL⟩:∃L,m-a=L:=⟨_,rfl⟩;have e1:IntKind.i64.wrap ((m:Int)-(a:Int))=(L:Int):=by rw[jI];omega
 have e2:((L:Int)==1)=false:=bq;have e3:IntKind.i64.wrap ((b:Int)-(m:Int))=1:=by rw[jI];omega
 clear hm hp hL V;go_enter func197,ntmps197;go_upto_region 15 with fail
 go_loopw [14,15] (λx y wr=>SFr w0 A off d a m (λk=>d[k]!.lv<=d[m]!.lv) (λk=>d[m]!.lv<d[k]!.lv) x y wr) (λx y _=>(intOf y).toNat-(intOf x).toNat)
 case atStart=>exact⟨a,m,rfl,rfl,bJ _,aa,bJ _,λk h1 h2=>aa,λk h1 h2=>aa,HW.out⟩
 case round=>
  obtain⟨i,j,rfl,rfl,u,a8,w,z,C,hE⟩:=hrel;have D:=aF z;have E:=aF C;have Z:=aF hE;clear z C;by_cases a5:i<j
  .have n:(i:Int)<(j:Int):=aa;obtain⟨h,hh⟩:∃h,(i+j)/2=h:=⟨_,rfl⟩;have a6:((i:Int)+(j:Int))/2=(h:Int):=aa;go_upto_region 17 with fail;have Ba:i<=h/\h<j:=aa;clear a6 hh;have F:A<wr.heap.size:=SWK.lt hE c;obtain⟨c0,c1,c2,c3,c4⟩:=(pO hE c S.out hs (i:=h) aa).all F;obtain⟨H,I,J,K,M⟩:=(pO hE c S.out hs (i:=m) aa).all F;have jh:(h:Int)<(B.size:Int):=aa;have ja:(m:Int)<(B.size:Int):=aa;obtain⟨N,o⟩:∃x,d[h]! =x:=⟨_,rfl⟩;obtain⟨s,g⟩:∃x,d[m]! =x:=⟨_,rfl⟩;rw[o] at c0 c1 c2 c3 c4;rw[g] at H I J K M;have l:=a7g wr s N;have T:Hid (d[h]! =N/\d[m]! =s):=⟨o,g⟩;clear hE o g;by_cases t:s.lv<N.lv
   .have q:=xP t;have O:Hid (d[m]!.lv<d[h]!.lv):=by rw[T.out.1,T.out.2];exact t
    generalize JJ (s.lv-N.lv)=sv at q l
    go_quiet_grown (first|(go_at_call 80;exact Calls.grown_of (l _ _)))
    clear c0 c1 c2 c3 c4 H I J K M l t;go_wp2_with fail
    go_roundw
    case rel=>
     refine⟨i,h,rfl,rfl,u,aa,aa,D.out,λk k1 k2=>?_,Z.out.grown nq osq⟩;by_cases r:k=h
     .rw[r];exact O.out
     .have:=(Y.out.l h k aa aa aa).le;have:=O.out;show d[m]!.lv<d[k]!.lv;omega
    case measure=>simp[intOf];omega
   .have q:=xQ t;have O:Hid (d[h]!.lv<=d[m]!.lv):=by rw[T.out.1,T.out.2];exact Int.not_lt.1 t
    generalize JJ (s.lv-N.lv)=sv at q l
    go_quiet_grown (first|(go_at_call 80;exact Calls.grown_of (l _ _)))
    clear c0 c1 c2 c3 c4 H I J K M l t;go_wp2_with fail
    go_roundw
    case rel=>
     refine⟨h+1,j,by go_num,rfl,aa,aa,w,λk k1 k2=>?_,E.out,Z.out.grown nq osq⟩;by_cases r:k=h
     .rw[r];exact O.out
     .have:=(Y.out.l k h aa aa aa).le;have:=O.out;show d[k]!.lv<=d[m]!.lv;omega
    case measure=>simp[intOf];omega
  .have n:¬(i:Int)<(j:Int):=aa;obtain rfl:i=j:=aa;clear hE n a5;go_upto_region 21 with fail
   go_loopw [17] (λx wr=>SFd w0 A off d i m x wr) (λx _=>(intOf x).toNat)
   case atStart=>exact⟨m,d,rfl,aa,bJ _,ShD.zero _ _,Z.out⟩
   case round=>
    obtain⟨k,f,rfl,a9,b5,hS,hE⟩:=hrel;have HS:=aF hS;have HF:=aF hE;have P:f.size=d.size:=hS.sz;by_cases b6:i<k
    .have a7:(i:Int)<(k:Int):=aa;obtain⟨p,hp⟩:∃p,k=p+1:=⟨k-1,aa⟩;have ep:IntKind.i64.wrap ((k:Int)-1)=(p:Int):=by rw[jI];omega
     obtain⟨a0,a1,a2,a3,a4,b7,b8,b9,c5,c6⟩:=pO hE c S.out (P.trans hs) (i:=k) aa;obtain⟨H,I,J,K,M,c7,c8,c9,d1,d2⟩:=pO hE c S.out (P.trans hs) (i:=p) aa;have EQ:Hid _:=Fs hE c (i:=k) (j:=p) aa aa;have ja:(k:Int)<(B.size:Int):=aa;have jb:(p:Int)<(B.size:Int):=aa;obtain⟨s,g⟩:∃x,f[k]! =x:=⟨_,rfl⟩;obtain⟨xb,Q⟩:∃x,f[p]! =x:=⟨_,rfl⟩;rw[g] at a0 a1 a2 a3 a4 EQ;rw[Q] at H I J K M EQ;have R:=aF hp;have d3:p<k:=aa;clear hS hE g Q hp;go_wp2_with fail
     go_big_region
     all_goals go_wp2
     go_roundw
     case rel=>
      refine⟨p,swp f k p,by first|rfl|go_num,by have:=R.out;omega,by have:=R.out;omega,?_,?_⟩
      .have:=HS.out;rw[R.out] at this⊢;exact this.step (by have:=R.out;omega) aa
      .exact EQ.out
     case measure=>
      have:=R.out;simp[intOf];omega
    .have a7:¬(i:Int)<(k:Int):=aa;obtain rfl:k=i:=aa;clear hS hE;go_wp2;refine bg (v:=aH #[]) (by simp[results,results197,go_sem]) rfl ⟨rfl,f,?_,HF.out⟩;obtain rfl:=HM.out;exact Uv Y.out u w (λk k1 k2=>Int.not_lt.2 (D.out k k1 k2)) E.out HS.out
end
section
variable {w0:ai}{A off:Nat}{B:Array S5}
def SMr (w0:ai)(A off:Nat)(d:Array S5)(a m b n c e:Nat)(x y:ax)(wr:ai):Prop:=∃(s r:Nat),x=ag s/\y=ag r/\EO S5.lv d a m b n c e s r/\uD w0 A off d wr
theorem He.one {d:Array S5}{a s c e b:Nat}(h:He S5.lv S5.tag d a s c e b)(f:¬(a<s/\s<c)):wW S5.lv S5.tag d d a c:=⟨yV.refl _ _ _,h.h1' f⟩
theorem He.two {d f:Array S5}{a s c e b:Nat}(h:He S5.lv S5.tag d a s c e b)(hp:wW S5.lv S5.tag d f a c)(g:¬(c<e/\e<b)):wW S5.lv S5.tag f f c b:=⟨yV.refl _ _ _,hp.mv.srt (h.h2' g) (.inr az)⟩
theorem He.pre {d f:Array S5}{a s c e b:Nat}(h:He S5.lv S5.tag d a s c e b)(hp:wW S5.lv S5.tag d f a c)(g:c<e/\e<b):vW S5.lv S5.tag f c e b:=(h.h2 g).carry hp.mv (.inl az)
def Xj (w0:ai)(A off:Nat)(B:Array S5)(c:Nat)(d:Nat):Prop:=∀(e:Array S5),e.size=B.size->∀(V:ai),uD w0 A off e V->∀(a m b:Nat),b-a<d->vW S5.lv S5.tag e a m b->
 aL 197 #[aj (some ⟨A,off,none⟩) B.size c,ag a,ag m,ag b,uT] V λf g=>SyR w0 A off e a b f g
theorem Xk (j:A<w0.heap.size)(h0:HoldsK zB 5 w0 A off B)(hz:B.size<=1000){d:Array S5}(hs:d.size=B.size){W:ai}(hW:uD w0 A off d W)(E a m b h n o u:Nat)(_hm1:m≠a+1)(_hm2:b≠m+1)(hp:vW S5.lv S5.tag d a m b)(C:(a+b)/2=h)(hn:h+m=n)(D:(h<m/\n-b=o/\h=u)\/(m<=h/\a=o/\m=u))(Q:Xj w0 A off B E (b-a)):
  aL 197 #[aj (some ⟨A,off,none⟩) B.size E,ag a,ag m,ag b,uT] W λe w'=>SyR w0 A off d a b e w':=by
 have b6:=Nh;have SR:=λ(e:Array S5) (he:e.size=B.size) (V:ai) (hV:uD w0 A off e V) (x y z:Nat) (h1:x<y) (h2:y<z) (h3:z<=e.size)=>Uw j h0 hz he hV E x y z h1 h2 h3 uT;have HR:Hid _:=SR;have HW:=aF hW;have H0:=aF h0;have HP:=aF hp;have IH:=aF Q;have q1:=hp.mb;have q2:=hp.sz;have q3:=hp.am;have cw:(n-m<m/\o=n-b/\u=n-m)\/(m<=n-m/\o=a/\u=m):=aa;have b7:Hid (EO S5.lv d a m b n o u o u):=⟨cw,aa,bJ _,aa,bJ _,λc h1 h2=>aa,λc h1 h2=>aa⟩;obtain⟨L,hL⟩:∃L,m-a=L:=⟨_,rfl⟩;obtain⟨R,hR⟩:∃R,b-m=R:=⟨_,rfl⟩;obtain⟨S,QD⟩:∃S,n-1=S:=⟨_,rfl⟩;have e1:IntKind.i64.wrap ((m:Int)-(a:Int))=(L:Int):=by rw[jI];omega
 have e2:((L:Int)==1)=false:=bq;have e3:IntKind.i64.wrap ((b:Int)-(m:Int))=(R:Int):=by rw[jI];omega
 have e4:((R:Int)==1)=false:=bq;have e5:((a:Int)+(b:Int))/2=(h:Int):=aa;have e6:(h:Int)+(m:Int)=(n:Int):=aa;have e7:IntKind.i64.wrap ((n:Int)-1)=(S:Int):=by rw[jI];omega
 have b1:a<h/\h<b/\h<n/\m<n/\n<=2*b:=aa;have HN:Hid (h+m=n/\n-1=S/\(a+b)/2=h):=⟨hn,QD,C⟩;have b8:=aF cw;rcases D with⟨hw,F,H⟩|⟨hw,F,H⟩
 all_goals first|(have e9:(h:Int)<(m:Int):=aa;have e8:IntKind.i64.wrap ((n:Int)-(b:Int))=(o:Int):=(by rw[jI];omega))|have e9:¬(h:Int)<(m:Int):=aa
 all_goals
  have HS:Hid _:=F;have b9:Hid _:=H;clear SR hW h0 hp Q hL hR QD hn C cw _hm1 _hm2 F H hw;go_enter func197,ntmps197;go_upto_region 33 with fail;clear e5 e6
  go_loopw [20,21] (λx y wr=>SMr w0 A off d a m b n o u x y wr) (λx y _=>(intOf y).toNat-(intOf x).toNat)
  case atStart=>exact⟨o,u,by first|rfl|rw[<- HS.out],by rw[<- b9.out],b7.out,HW.out⟩
  case round=>
   obtain⟨s,r,rfl,rfl,O,hE⟩:=hrel;have HC:=aF O;have HE:=aF hE;obtain⟨T,U,I⟩:=HN.out;have X:=b8.out;have Y:=O.s1;have Z:=O.s2;have a4:=O.s3;by_cases c5:s<r
   .have a5:(s:Int)<(r:Int):=aa;obtain⟨c,hc⟩:∃c,(s+r)/2=c:=⟨_,rfl⟩;obtain⟨t,ht⟩:∃t,n-1-c=t:=⟨_,rfl⟩;have c6:((s:Int)+(r:Int))/2=(c:Int):=aa;have c9:IntKind.i64.wrap ((S:Int)-(c:Int))=(t:Int):=by rw[jI];omega
    have d4:s<=c/\c<r/\c<B.size/\t<B.size:=aa;have c7:=aF ht;clear T U I X Y Z a4 hc ht O;go_upto_region 35 with fail;clear c6;have a6:A<wr.heap.size:=SWK.lt hE j;obtain⟨c0,c1,c2,c3,c4⟩:=(pO hE j H0.out hs (i:=t) aa).all a6;obtain⟨b0,b1,b2,b3,b4⟩:=(pO hE j H0.out hs (i:=c) aa).all a6;have jh:(t:Int)<(B.size:Int):=aa;have ja:(c:Int)<(B.size:Int):=aa;obtain⟨xt,J⟩:∃x,d[t]! =x:=⟨_,rfl⟩;obtain⟨xc,K⟩:∃x,d[c]! =x:=⟨_,rfl⟩;rw[J] at c0 c1 c2 c3 c4;rw[K] at b0 b1 b2 b3 b4;have k:=a7g wr xt xc;have HX:Hid (d[n-1-c]! =xt/\d[c]! =xc):=⟨by rw[c7.out];exact J,K⟩;clear hE J K;by_cases D:xt.lv<xc.lv
    .have M:=xP D;have HD:Hid (EO S5.lv d a m b n o u s c):=HC.out.down HP.out aa aa (by rw[HX.out.1,HX.out.2];exact D);generalize JJ (xt.lv-xc.lv)=sv at M k
     go_quiet_grown (first|(go_at_call 80;exact Calls.grown_of (k _ _)))
     clear c0 c1 c2 c3 c4 b0 b1 b2 b3 b4 k D;go_wp2_with fail
     go_roundw
     case rel=>exact⟨s,c,rfl,rfl,HD.out,HE.out.grown nq osq⟩
     case measure=>simp[intOf];omega
    .have M:=xQ D;have HD:Hid (EO S5.lv d a m b n o u (c+1) r):=HC.out.up HP.out aa aa (by rw[HX.out.1,HX.out.2];exact D);generalize JJ (xt.lv-xc.lv)=sv at M k
     go_quiet_grown (first|(go_at_call 80;exact Calls.grown_of (k _ _)))
     clear c0 c1 c2 c3 c4 b0 b1 b2 b3 b4 k D;go_wp2_with fail
     go_roundw
     case rel=>exact⟨c+1,r,by go_num,rfl,HD.out,HE.out.grown nq osq⟩
     case measure=>simp[intOf];omega
   .have a5:¬(s:Int)<(r:Int):=aa;obtain rfl:s=r:=aa;obtain⟨e,he⟩:∃e,n-s=e:=⟨_,rfl⟩;have d6:IntKind.i64.wrap ((n:Int)-(s:Int))=(e:Int):=by rw[jI];omega
    have HT:Hid (∀f,JF d f s m e->He S5.lv S5.tag f a s h e b):=λf hf=>by
     rw[<- he] at hf⊢;exact HC.out.turn HP.out hf I.symm
    have d7:a<=s/\s<=m/\m<=e/\e<=b/\s<=h/\h<=e:=aa;have a7:s<m↔h<e:=aa;have a8:s<h↔m<e:=aa;have HB:Hid ((s<m↔h<e)/\(s<h↔m<e)):=⟨a7,a8⟩;clear T U I X Y Z a4 he O hE c5 a7 a8;go_upto_region 39 with fail
    go_cut [185] from 178 to 219 (λv w=>v=.bool (decide (s<m/\m<e))/\wr=w)
    case first=>
     by_cases g1:(s:Int)<(m:Int)<;>by_cases g2:(m:Int)<(e:Int)
     all_goals
      go_wp2_with fail
      go_meet
      exact⟨congrArg _ (by first|exact(decide_eq_true aa).symm|exact(iU aa).symm),rfl⟩
    case rest=>
     obtain⟨rfl,rfl⟩:=hcut
     go_upto_if 185 with fail
     go_cut [] from 178 to 219 (λw=>∃p,JF d p s m e/\uD w0 A off p w)
     case first=>
      by_cases g:s<m/\m<e
      .rw[decide_eq_true g];have RT:=HR.out d hs wr HE.out s m e aa aa aa;go_wp2_with(go_at_call 268;refine RT.mono ?_;rintro e w1 ⟨rfl,p,P,k1⟩)
       go_meet
       exact⟨p,P,k1⟩
      .rw[iU g];go_wp2_with fail
       go_meet
       exact⟨d,JF.none aa aa aa,HE.out⟩
     case rest=>
      obtain⟨p,P,k1⟩:=hcut
      rename ai=>w1
      have l:Hid (He S5.lv S5.tag p a s h e b):=HT.out p P;have a9:p.size=B.size:=P.sz.trans hs;have b5:=aF P;clear P;go_upto_region 41 with fail
      go_cut [199] from 178 to 219 (λv w=>v=.bool (decide (a<s/\s<h))/\w1=w)
      case first=>
       by_cases g1:(a:Int)<(s:Int)<;>by_cases g2:(s:Int)<(h:Int)
       all_goals
        go_wp2_with fail
        go_meet
        exact⟨congrArg _ (by first|exact(decide_eq_true aa).symm|exact(iU aa).symm),rfl⟩
      case rest=>
       obtain⟨rfl,rfl⟩:=hcut
       go_upto_if 199 with fail
       go_cut [] from 178 to 219 (λw=>∃N,wW S5.lv S5.tag p N a h/\uD w0 A off N w)
       case first=>
        by_cases g:a<s/\s<h
        .rw[decide_eq_true g];have C1:=IH.out p a9 w1 k1 a s h aa (l.out.h1 g);go_wp2_with(go_at_call 197;refine C1.mono ?_;rintro e w2 ⟨rfl,N,p2,k2⟩)
         go_meet
         exact⟨N,p2,k2⟩
        .rw[iU g];go_wp2_with fail
         go_meet
         exact⟨p,l.out.one g,k1⟩
       case rest=>
        obtain⟨N,p2,k2⟩:=hcut
        rename ai=>w2
        have q:=aF p2;clear p2;go_upto_region 43 with fail
        go_cut [213] from 178 to 219 (λv w=>v=.bool (decide (h<e/\e<b))/\w2=w)
        case first=>
         by_cases g1:(h:Int)<(e:Int)<;>by_cases g2:(e:Int)<(b:Int)
         all_goals
          go_wp2_with fail
          go_meet
          exact⟨congrArg _ (by first|exact(decide_eq_true aa).symm|exact(iU aa).symm),rfl⟩
        case rest=>
         obtain⟨rfl,rfl⟩:=hcut
         go_upto_if 213 with fail
         by_cases g:h<e/\e<b
         .rw[decide_eq_true g];have C2:=IH.out N (q.out.mv.sz.trans a9) w2 k2 h e b aa (l.out.pre q.out g);go_wp2_with(go_at_call 197;refine C2.mono ?_;rintro e w3 ⟨rfl,d3,p3,k3⟩)
          all_goals go_end0
          all_goals have pf:=l.out.done aa aa q.out p3
          all_goals exact⟨rfl,d3,⟨((b5.out.mv aa aa).mono aa aa).trans pf.mv,pf.s⟩,k3⟩
         .rw[iU g];have c8:Hid _:=l.out.two q.out g;go_wp2_with fail
          all_goals go_end0
          all_goals have pf:=l.out.done aa aa q.out c8.out
          all_goals exact⟨rfl,N,⟨((b5.out.mv aa aa).mono aa aa).trans pf.mv,pf.s⟩,k2⟩
end
section
variable {w0:ai}{A off:Nat}{B:Array S5}
theorem Bb (c:A<w0.heap.size)(g:HoldsK zB 5 w0 A off B)(i:B.size<=1000)(d:Nat):∀f,Xj w0 A off B d f
 |0=>λ_ _ _ _ _ _ _ h=>absurd h (Nat.not_lt_zero _)
 |f+1=>λe j V k a m b z l=>by
  have s:Xj w0 A off B d (b-a):=λt o u p v w x C q=>Bb c g i d f t o u p v w x aa q;by_cases n:m=a+1
  .exact Za c g i j k d a m b n l
  .by_cases r:b=m+1
   .exact a2A c g i j k d a m b n r l
   .by_cases y:(a+b)/2<m
    .exact Xk c g i j k d a m b _ _ _ _ n r l rfl rfl (.inl ⟨y,rfl,rfl⟩) s
    .exact Xk c g i j k d a m b _ _ _ _ n r l rfl rfl (.inr ⟨aa,rfl,rfl⟩) s
def IOr (w0:ai)(A off:Nat)(d:Array S5)(a b:Nat)(x:ax)(wr:ai):Prop:=∃(i:Nat) (e:Array S5),x=ag i/\a<i/\i<=b/\yV d e a i/\QA S5.lv S5.tag e a i/\uD w0 A off e wr
def IIr (w0:ai)(A off:Nat)(e:Array S5)(a i:Nat)(y:ax)(wr:ai):Prop:=∃(j:Nat) (f:Array S5),y=ag j/\a<=j/\j<=i/\Uu S5.lv S5.tag f a j i/\yV e f a (i+1)/\uD w0 A off f wr
theorem JS (c:A<w0.heap.size)(h0:HoldsK zB 5 w0 A off B)(hz:B.size<=1000){d:Array S5}(hs:d.size=B.size){W:ai}(hW:uD w0 A off d W)(Q a b:Nat)(a9:a<b)(hb:b<=d.size)(ht:∀u v,a<=u->u<v->v<b->d[u]!.tag<d[v]!.tag):
  aL 196 #[aj (some ⟨A,off,none⟩) B.size Q,ag a,ag b,uT] W λe w'=>SyR w0 A off d a b e w':=by
 have R:=Nh;have HW:=aF hW;have N:=aF h0;have S:=aF ht;clear hW h0 ht;go_enter func196,ntmps196;go_upto_region 1 with fail
 go_loopw [8] (λx wr=>IOr w0 A off d a b x wr) (λx _=>b-(intOf x).toNat)
 case atStart=>exact⟨a+1,d,by go_num,aa,aa,yV.refl _ _ _,λu v m n h3=>aa,HW.out⟩
 case round=>
  obtain⟨i,e,rfl,b5,b6,T,hS,hE⟩:=hrel;have O:=aF T;have HS:=aF hS;have HE:=aF hE;have U:e.size=d.size:=T.sz;clear T hS hE;by_cases X:i<b
  .have C:(i:Int)<(b:Int):=aa;have Y:Hid (Uu S5.lv S5.tag e a i i):=by
    refine⟨λu v m n h3 h4 h5=>HS.out u v m n aa,λv m n=>aa,λu m n=>?_⟩;obtain⟨k,k1,k2,k3⟩:=(O.out.same _).1 ⟨u,m,n,rfl⟩;rw[<- k3,O.out.out i aa];exact S.out k i k1 k2 X
   go_upto_region 4 with fail
   go_loopw [9] (λy wr=>IIr w0 A off e a i y wr) (λy _=>(intOf y).toNat)
   case atStart=>exact⟨i,e,rfl,aa,bJ _,Y.out,yV.refl _ _ _,HE.out⟩
   case round=>
    obtain⟨j,f,rfl,b7,b8,hI,o,hF⟩:=hrel;have HI:=aF hI;have HV:=aF o;have Z:=aF hF;have l:f.size=d.size:=o.sz.trans U;have D:Hid (∀V,uD w0 A off f V->(j=a\/a<j/\f[j-1]!.lv<=f[j]!.lv)->IOr w0 A off d a b (ag (i+1:Nat)) V):=λV Ot a5=>
     ⟨i+1,f,rfl,aa,aa,(O.out.mono az aa).trans HV.out,HI.out.stop (a5.imp id (λh=>⟨h.1,Int.not_lt.2 h.2⟩)),Ot⟩
    clear hI o;by_cases a6:a<j
    .have a7:(a:Int)<(j:Int):=aa;obtain⟨p,hp⟩:∃p,j=p+1:=⟨j-1,aa⟩;have ep:IntKind.i64.wrap ((j:Int)-1)=(p:Int):=by rw[jI];omega
     have b9:p<j:=aa;have q:=aF hp;clear hp;have E:A<wr.heap.size:=SWK.lt hF c;obtain⟨c0,c1,c2,c3,c4⟩:=(pO hF c N.out (l.trans hs) (i:=j) aa).all E;obtain⟨F,H,I,J,K⟩:=(pO hF c N.out (l.trans hs) (i:=p) aa).all E;have jh:(j:Int)<(B.size:Int):=aa;have ja:(p:Int)<(B.size:Int):=aa;obtain⟨L,r⟩:∃x,f[j]! =x:=⟨_,rfl⟩;obtain⟨M,s⟩:∃x,f[p]! =x:=⟨_,rfl⟩;rw[r] at c0 c1 c2 c3 c4;rw[s] at F H I J K;have g:=a7g wr L M;have w:Hid (f[j]! =L/\f[p]! =M):=⟨r,s⟩;clear hF r s;by_cases z:L.lv<M.lv
     .have t:=xP z;have HK:Hid (f[j]!.lv<f[p]!.lv):=by rw[w.out.1,w.out.2];exact z
      generalize JJ (L.lv-M.lv)=sv at t g;go_wp2_with fail
      go_quiet_grown (first|(go_at_call 80;exact Calls.grown_of (g _ _)))
      clear c0 c1 c2 c3 c4 F H I J K g z;go_wp2_with fail;obtain⟨V,o⟩:∃V,grow (wr.drewN nq) osq=V:=⟨_,rfl⟩;have P:uD w0 A off f V:=by rw[<- o];exact Z.out.grown nq osq
      rw[o];clear o;obtain⟨a0,a1,a2,a3,a4,c5,c6,c7,c8,c9⟩:=pO P c N.out (l.trans hs) (i:=j) aa;obtain⟨F,H,I,J,K,d1,d2,d3,d4,d6⟩:=pO P c N.out (l.trans hs) (i:=p) aa;have EQ:Hid _:=Fs P c (i:=j) (j:=p) aa aa;rw[w.out.1] at a0 a1 a2 a3 a4 EQ;rw[w.out.2] at F H I J K EQ;clear P
      go_big_region
      all_goals go_wp2
      go_roundw
      case rel=>
       refine⟨p,swp f j p,by first|rfl|go_num,by have:=q.out;omega,aa,?_,?_,?_⟩
       .have m:=HI.out;have n:=HK.out;rw[q.out] at m n⊢;exact m.step (by have:=q.out;omega) (by have:=q.out;omega) n aa
       .exact HV.out.trans (yV.swp ⟨aa,aa⟩ ⟨by have:=q.out;omega,aa⟩ aa)
       .exact EQ.out
      case measure=>
       have:=q.out;simp[intOf];omega
     .have t:=xQ z;have HK:Hid (f[p]!.lv<=f[j]!.lv):=by rw[w.out.1,w.out.2];exact Int.not_lt.1 z
      generalize JJ (L.lv-M.lv)=sv at t g;go_wp2_with fail
      go_quiet_grown (first|(go_at_call 80;exact Calls.grown_of (g _ _)))
      clear c0 c1 c2 c3 c4 F H I J K g z;go_wp2_with fail
      go_roundw
      case rel=>exact D.out _ (Z.out.grown nq osq) (.inr ⟨a6,by rw[show j-1=p from by have:=q.out;omega];exact HK.out⟩)
      case measure=>simp[intOf];omega
    .have a7:¬(a:Int)<(j:Int):=aa;have a8:decide ((j:Int)>(a:Int))=false:=iU aa;clear hF;go_wp2_with fail
     go_big_region
     all_goals go_wp2
     go_roundw
     case rel=>exact D.out _ (uD.drew Z.out) (.inl aa)
     case measure=>simp[intOf];omega
  .have C:¬(i:Int)<(b:Int):=aa;obtain rfl:i=b:=aa;go_wp2
   go_end0
   exact⟨rfl,e,⟨O.out,HS.out⟩,HE.out⟩
theorem Hf (a b:Nat)(o:Option Addr)(c:Nat)(d:a<=1000)(W:ai):
  aL 196 #[aj o c b,ag a,ag a,uT] W λe w'=>e=ay (aH #[])/\w'=W:=by
 go_enter func196,ntmps196;have f:¬((a:Int)+1<(a:Int)):=aa;go_upto_region 1 with fail
 go_loopw [8] (λx wr=>x=ag ((a:Int)+1)/\wr=W) (λ_ _=>0)
 case atStart=>exact⟨by go_num,rfl⟩
 case round=>
  obtain⟨rfl,rfl⟩:=hrel;go_wp2
  go_end0
  exact⟨rfl,rfl⟩
end
variable {w0:ai}{A off:Nat}{B:Array S5}
def ST1 (w0:ai)(A off:Nat)(B:Array S5)(x y:ax)(wr:ai):Prop:=∃(a b:Nat) (e:Array S5),x=ag a/\y=ag b/\b=a+20/\a<=B.size/\r9 S5.lv S5.tag e 20 B.size a/\yV B e 0 B.size/\(∀i,a<=i->e[i]! =B[i]!)/\uD w0 A off e wr
def ST2 (w0:ai)(A off:Nat)(B:Array S5)(x:ax)(wr:ai):Prop:=∃(a:Nat) (e:Array S5),x=ag a/\20<=a/\a<=2000/\rP S5.lv S5.tag e a B.size 0/\yV B e 0 B.size/\uD w0 A off e wr
def ST3 (w0:ai)(A off:Nat)(B:Array S5)(c:Nat)(x y:ax)(wr:ai):Prop:=∃(a b:Nat) (e:Array S5),x=ag a/\y=ag b/\b=a+2*c/\a<=B.size/\r9 S5.lv S5.tag e (2*c) B.size a/\rP S5.lv S5.tag e c B.size a/\yV B e 0 B.size/\uD w0 A off e wr
theorem Ux (H:A<w0.heap.size)(h0:HoldsK zB 5 w0 A off B)(Y:B.size<=1000)(ht:∀i,i<B.size->B[i]!.tag=i)(j:Nat):
  aL 134 #[aj (some ⟨A,off,none⟩) B.size j,ag B.size,uT] w0 λe w'=>SyR w0 A off B 0 B.size e w':=by
 obtain⟨n,hn⟩:∃n,B.size=n:=⟨_,rfl⟩;have N:Hid (∀(e:Array S5),e.size=B.size->∀V,uD w0 A off e V->∀a b,a<b->b<=e.size->(∀u v,a<=u->u<v->v<b->e[u]!.tag<e[v]!.tag)->aL 196 #[aj (some ⟨A,off,none⟩) B.size j,ag a,ag b,uT] V λe' w'=>SyR w0 A off e a b e' w'):=λe he V hV a b l I h3=>JS H h0 Y he hV j a b l I h3;have a4:Hid (Xj w0 A off B j 2000):=Bb H h0 Y j 2000;have HW:Hid (uD w0 A off B w0):=SWK.start h0;have O:=aF ht;rw[hn] at Y⊢;have d:=aF hn;rw[hn] at N;clear h0 ht hn;go_enter func134,ntmps134;go_upto_region 2 with fail
 go_loopw [7,8] (λx y wr=>ST1 w0 A off B x y wr) (λx _ _=>n-(intOf x).toNat)
 case atStart=>exact⟨0,20,B,rfl,rfl,rfl,bA _,r9.zero _ _ _,yV.refl _ _ _,λ_ _=>rfl,HW.out⟩
 case round=>
  obtain⟨a,b,e,rfl,rfl,p,ha,hR,hM,hS,hE⟩:=hrel;rw[d.out] at ha hR hM;have HB:=aF p;have HR:=aF hR;have HM:=aF hM;have HS:=aF hS;have d1:e.size=n:=hM.sz.trans d.out;have TG:Hid (∀z,z<=n->∀u v,a<=u->u<v->v<z->e[u]!.tag<e[v]!.tag):=λz Y u v l I h3=>by
   rw[HS.out u l,HS.out v aa,O.out u (by rw[d.out];omega),O.out v (by rw[d.out];omega)];exact I
  have TI:Hid (∀z,z<=n->∀i,a<=i->i<z->z<=a+20->a<=e[i]!.tag/\e[i]!.tag<a+20):=λz Y i l I h3=>by
   rw[HS.out i l,O.out i (by rw[d.out];omega)];omega
  clear hR hM hS;by_cases D:b<=n
  .have a5:(b:Int)<=(n:Int):=aa;have IC:=N.out e aa wr hE a b aa aa (TG.out b D);obtain⟨b2,a6⟩:∃b2,b+20=b2:=⟨_,rfl⟩;have d2:(b:Int)+20=(b2:Int):=aa;have d3:b<=1000:=aa;have h:=aF a6;clear hE p a6;go_wp2_with(go_at_call 196;refine IC.mono ?_;rintro e P ⟨rfl,f,J,Q⟩)
   go_roundw
   case rel=>
    have p:=HB.out;have r:min (a+20) n=b:=aa;refine⟨b,b2,f,rfl,rfl,by have:=h.out;omega,by rw[d.out];exact D,?_,?_,?_,Q⟩
    .rw[d.out,p];exact HR.out.more aa (by rw[r];exact J.mv) (by rw[r];exact J.s) (λi l I=>TI.out b D i l aa aa)
    .rw[d.out];exact HM.out.trans (J.mv.mono (bA _) D)
    .exact λi hi=>(J.mv.out i (.inr hi)).trans (HS.out i aa)
   case measure=>
    have p:=HB.out;simp[intOf];omega
  .have a5:¬(b:Int)<=(n:Int):=aa;have p:b=a+20:=HB.out;have c4:∃P f,(aL 196 #[aj (some ⟨A,off,none⟩) n j,ag a,ag n,uT] wr λe' w'=>e'=ay (aH #[])/\∃f,rP S5.lv S5.tag f 20 n 0/\yV B f 0 n/\uD w0 A off f w')/\P=wr/\f=e:=by
    refine⟨wr,e,?_,rfl,rfl⟩;by_cases a7:a<n
    .refine(N.out e aa wr hE a n a7 aa (TG.out n az)).mono ?_;rintro e' P ⟨rfl,f,J,Q⟩;have r:min (a+20) n=n:=aa;refine⟨rfl,f,(HR.out.more a7 (by rw[r];exact J.mv) (by rw[r];exact J.s) (λi l I=>TI.out n az i l aa aa)).done (.stop aa),HM.out.trans (J.mv.mono (bA _) az),Q⟩
    .obtain rfl:a=n:=aa;refine(Hf a j _ a Y wr).mono ?_;rintro e' P ⟨rfl,rfl⟩;exact⟨rfl,e,HR.out.done (.stop az),HM.out,hE⟩
   obtain⟨-, -,IC, -, -⟩:=c4;clear hE p;go_upto_region 7 with(go_at_call 196;refine IC.mono ?_;rintro e P ⟨rfl,f,a8,a9,b0⟩);clear IC
   go_loopw [6] (λx wr=>ST2 w0 A off B x wr) (λx _=>n-(intOf x).toNat)
   case atStart=>exact⟨20,f,rfl,bJ _,aa,by rw[d.out];exact a8,by rw[d.out];exact a9,b0⟩
   case round=>
    obtain⟨o,g,rfl,d4,d6,R,S,b1⟩:=hrel;rw[d.out] at R S;have b3:=aF R;have b4:=aF S;have b5:=aF b1;clear R S b1 a8 a9 b0;by_cases d7:o<n
    .have b6:(o:Int)<(n:Int):=aa;obtain⟨w,b7⟩:∃w,2*o=w:=⟨_,rfl⟩;have d8:2*(o:Int)=(w:Int):=aa;have d9:(o:Int)*2=(w:Int):=aa;have b8:w<=2000:=aa;have h:=aF b7;clear b7;go_upto_region 9 with fail
     go_loopw [7,8] (λx y wr=>ST3 w0 A off B o x y wr) (λx _ _=>n-(intOf x).toNat)
     case atStart=>exact⟨0,w,g,rfl,rfl,by have:=h.out;omega,bA _,r9.zero _ _ _,by rw[d.out];exact b3.out,by rw[d.out];exact b4.out,b5.out⟩
     case round=>
      obtain⟨c,C,k,rfl,rfl,E,hc,hT,T,m,Z⟩:=hrel;rw[d.out] at hc hT T m;have b9:=aF E;have HT:=aF hT;have U:=aF m;have c0:k.size=n:=m.sz.trans d.out;obtain⟨K,s⟩:∃K,c+o=K:=⟨_,rfl⟩;have e0:(c:Int)+(o:Int)=(K:Int):=aa;by_cases L:C<=n
      .have c5:(C:Int)<=(n:Int):=aa;obtain⟨W,t,F⟩:=T.pre (b:=C) aa aa aa aa;rw[s] at W;have SC:=a4.out k (c0.trans d.out.symm) wr Z c K C aa W;rw[d.out] at SC;obtain⟨c3,c1⟩:∃c3,C+w=c3:=⟨_,rfl⟩;have e1:(C:Int)+(w:Int)=(c3:Int):=aa;have c6:=aF c1;have X:=aF t;have c7:=aF F;have c2:c<C/\c<n:=aa;clear T W t F Z E s c1 hT m;go_wp2_with(go_at_call 197;refine SC.mono ?_;rintro e P ⟨rfl,q,M,Q⟩)
       go_roundw
       case rel=>
        have p:=b9.out;have r:min (c+2*o) n=C:=aa;refine⟨C,c3,q,rfl,rfl,by have:=c6.out;have:=h.out;omega,by rw[d.out];exact L,?_,?_,?_,Q⟩
        .rw[d.out,p];exact HT.out.more aa (by rw[r];exact M.mv) (by rw[r];exact M.s) (λi l I=>X.out i l aa)
        .rw[d.out,p];exact c7.out.carry (λi l _=>M.mv.out i (.inr aa))
        .rw[d.out];exact U.out.trans (M.mv.mono (bA _) L)
       case measure=>simp[intOf];omega
      .have c5:¬(C:Int)<=(n:Int):=aa;by_cases e2:K<n
       .have c8:(K:Int)<(n:Int):=aa;obtain⟨W,t,F⟩:=T.pre (b:=n) aa aa aa aa;rw[s] at W;have SC:=a4.out k (c0.trans d.out.symm) wr Z c K n aa W;rw[d.out] at SC;have X:=aF t;have c2:c<n:=aa;clear T W t F Z E s hT m;go_wp2_with(go_at_call 197;refine SC.mono ?_;rintro e P ⟨rfl,q,M,Q⟩)
        go_roundw
        case rel=>
         have p:=b9.out;have r:min (c+2*o) n=n:=aa;refine⟨w,q,rfl,by have:=h.out;omega,b8,?_,?_,Q⟩
         .rw[d.out,<- h.out];exact(HT.out.more c2 (by rw[r];exact M.mv) (by rw[r];exact M.s) (λi l I=>X.out i l aa)).done (.stop aa)
         .rw[d.out];exact U.out.trans (M.mv.mono (bA _) az)
        case measure=>simp[intOf];have:=h.out;omega
       .have c8:¬(K:Int)<(n:Int):=aa;have HU:Hid (rP S5.lv S5.tag k (2*o) n c):=T.single aa;clear T E s hT m;have c9:=aF Z;clear Z;go_wp2_with fail
        go_roundw
        case rel=>exact⟨w,k,rfl,by have:=h.out;omega,b8,by rw[d.out,<- h.out];exact HT.out.done HU.out,by rw[d.out];exact U.out,c9.out⟩
        case measure=>simp[intOf];have:=h.out;omega
    .have b6:¬(o:Int)<(n:Int):=aa;go_wp2
     go_end0
     exact⟨rfl,g,⟨b4.out,b3.out.whole aa⟩,b5.out⟩
theorem Hg (a:A<w0.heap.size)(c:HoldsK zB 5 w0 A off B)(f:B.size<=1000)(d:∀i,i<B.size->B[i]!.tag=i)(b:Nat):
  aL 79 #[aj (some ⟨A,off,none⟩) B.size b,uT] w0 λe w'=>SyR w0 A off B 0 B.size e w':=by
 have g:=Ux a c f d b;clear c d;go_enter func79,ntmps79;go_wp2_with(go_at_call 134;refine g.mono ?_;rintro e j ⟨rfl,h⟩)
 go_end0
 exact⟨rfl,h⟩
