/- Parts of the proof. -/
import Derived.Shelf.SlSortCmp.InsertionK
import Derived.Shelf.SlSortFuncK.SWK
import Derived.Test.YtecneflbncjhpaaGreatDoorQp0
import Derived.Deep.CutRange
namespace Go.Proofs.YtecneflbncjhpaaGreatDoor
open Go.Proofs.Tryz
set_option maxHeartbeats 16000000
section
open Go.Sort
section
variable {α:Type}[Inhabited α]{key:α->Int}{tag:α->Nat}
def yg (key:α->Int)(tag:α->Nat)(x y:α):Prop:=key x<key y\/key x=key y/\tag x<tag y
omit [Inhabited α] in
theorem yg.trans {x y z:α}(h:yg key tag x y)(h':yg key tag y z):yg key tag x z:=by
 unfold yg at*;omega
omit [Inhabited α] in
theorem yg.le {x y:α}(h:yg key tag x y):key x<=key y:=by
 unfold yg at*;omega
def InR (d:Array α)(a b:Nat)(x:α):Prop:=∃i,a<=i/\i<b/\d[i]! =x
def Lt (key:α->Int)(tag:α->Nat)(d:Array α)(a b:Nat):Prop:=∀i j,a<=i->i<j->j<b->yg key tag d[i]! d[j]!
structure uF (d d':Array α)(a b:Nat):Prop where
 sz:d'.size=d.size
 out:∀i,i<a\/b<=i->d'[i]! =d[i]!
 same:∀x,InR d' a b x↔InR d a b x
theorem uF.refl (d:Array α)(a b:Nat):uF d d a b:=⟨rfl,fun _ _=>rfl,fun _=>Iff.rfl⟩
theorem uF.trans {d e f:Array α}{a b:Nat}(h:uF d e a b)(h':uF e f a b):uF d f a b:=
 ⟨h'.sz.trans h.sz,fun i hi=>(h'.out i hi).trans (h.out i hi),fun x=>(h'.same x).trans (h.same x)⟩
theorem uF.mono {d e:Array α}{a b a' b':Nat}(h:uF d e a b)(ha:a'<=a)(hb:b<=b'):uF d e a' b':=by
 refine⟨h.sz,fun i hi=>h.out i (by omega),fun x=>⟨?_,?_⟩⟩
 ·rintro⟨i,h1,h2,rfl⟩;by_cases hi:a<=i/\i<b
  ·obtain⟨j,j1,j2,j3⟩:=(h.same _).1 ⟨i,hi.1,hi.2,rfl⟩;exact⟨j,by omega,by omega,j3⟩
  ·exact⟨i,h1,h2,(h.out i (by omega)).symm⟩
 ·rintro⟨i,h1,h2,rfl⟩;by_cases hi:a<=i/\i<b
  ·obtain⟨j,j1,j2,j3⟩:=(h.same _).2 ⟨i,hi.1,hi.2,rfl⟩;exact⟨j,by omega,by omega,j3⟩
  ·exact⟨i,h1,h2,h.out i (by omega)⟩
theorem uF.srt {d e:Array α}{a b u v:Nat}(h:uF d e a b)(hs:Lt key tag d u v)(hd:v<=a\/b<=u):Lt key tag e u v:=fun i j h1 h2 h3=>by
 rw[h.out i (by omega),h.out j (by omega)];exact hs i j h1 h2 h3
theorem uF.swp {d:Array α}{a b i j:Nat}(hi:a<=i/\i<b)(hj:a<=j/\j<b)(hb:b<=d.size):uF d (swp d i j) a b:=by
 have G:=fun k=>swp_get d (i:=i) (j:=j) (by omega) (by omega) k;refine⟨swp_size _ _ _,fun k hk=>by rw[G,if_neg (by omega),if_neg (by omega)],fun x=>⟨?_,?_⟩⟩
 ·rintro⟨k,h1,h2,rfl⟩;rw[G];by_cases hkj:k=j
  ·rw[if_pos hkj];exact⟨i,hi.1,hi.2,rfl⟩
  ·by_cases hki:k=i
   ·rw[if_neg hkj,if_pos hki];exact⟨j,hj.1,hj.2,rfl⟩
   ·rw[if_neg hkj,if_neg hki];exact⟨k,h1,h2,rfl⟩
 ·rintro⟨k,h1,h2,rfl⟩;by_cases hkj:k=j
  ·refine⟨i,hi.1,hi.2,?_⟩;rw[G];by_cases hij:i=j
   ·rw[if_pos hij,hkj,hij]
   ·rw[if_neg hij,if_pos rfl,hkj]
  ·by_cases hki:k=i
   ·exact⟨j,hj.1,hj.2,by rw[G,if_pos rfl,hki]⟩
   ·exact⟨k,h1,h2,by rw[G,if_neg hkj,if_neg hki]⟩
structure Oj (key:α->Int)(tag:α->Nat)(d:Array α)(a j i:Nat):Prop where
 sr:∀u v,a<=u->u<v->v<=i->u≠j->v≠j->yg key tag d[u]! d[v]!
 up:∀v,j<v->v<=i->yg key tag d[j]! d[v]!
 tg:∀u,a<=u->u<j->tag d[u]! < tag d[j]!
theorem Oj.stop {d:Array α}{a j i:Nat}(h:Oj key tag d a j i)(hs:j=a\/a<j/\¬key d[j]! < key d[j-1]!):Lt key tag d a (i+1):=fun u v h1 h2 h3=>by
 have below:∀u,a<=u->u<j->j<=i->yg key tag d[u]! d[j]! :=fun u hu huj hji=>by
  rcases hs with h0|⟨h0,hk⟩
  ·omega
  ·have h1:yg key tag d[j-1]! d[j]! :=by
    have:=h.tg (j-1) (by omega) (by omega);unfold yg;omega
   by_cases he:u=j-1
   ·rw[he];exact h1
   ·exact(h.sr u (j-1) hu (by omega) (by omega) (by omega) (by omega)).trans h1
 by_cases hv:v=j
 ·rw[hv] at h2 h3⊢;exact below u h1 h2 (by omega)
 ·by_cases hu:u=j
  ·rw[hu];exact h.up v (by omega) (by omega)
  ·exact h.sr u v h1 h2 (by omega) hu hv
theorem Oj.step {d:Array α}{a j i:Nat}(h:Oj key tag d a (j+1) i)(haj:a<=j)(hji:j+1<=i)(hk:key d[j+1]! < key d[j]!)(hsz:i<d.size):Oj key tag (swp d (j+1) j) a j i:=by
 have G:=fun k=>swp_get d (i:=j+1) (j:=j) (by omega) (by omega) k;have gj:(swp d (j+1) j)[j]! =d[j+1]! :=by rw[G,if_pos rfl]
 have gj1:(swp d (j+1) j)[j+1]! =d[j]! :=by rw[G,if_neg (by omega),if_pos rfl]
 have go:∀k,k≠j->k≠j+1->(swp d (j+1) j)[k]! =d[k]! :=fun k h1 h2=>by rw[G,if_neg h1,if_neg h2]
 refine⟨fun u v h1 h2 h3 h4 h5=>?_,fun v h1 h2=>?_,fun u h1 h2=>?_⟩
 ·by_cases hu:u=j+1
  ·rw[hu,gj1,go v h5 (by omega)];exact h.sr j v haj (by omega) h3 (by omega) (by omega)
  ·by_cases hv:v=j+1
   ·rw[hv,gj1,go u h4 hu];exact h.sr u j h1 (by omega) (by omega) (by omega) (by omega)
   ·rw[go u h4 hu,go v h5 hv];exact h.sr u v h1 h2 h3 hu hv
 ·rw[gj];by_cases hv:v=j+1
  ·rw[hv,gj1];exact .inl hk
  ·rw[go v (by omega) hv];exact h.up v (by omega) h2
 ·rw[gj,go u (by omega) (by omega)];exact h.tg u h1 (by omega)
structure XR (d d':Array α)(a b n:Nat):Prop where
 sz:d'.size=d.size
 lf:∀t,t<n->d'[a+t]! =d[b+t]!
 rt:∀t,t<n->d'[b+t]! =d[a+t]!
 out:∀i,¬(a<=i/\i<a+n)->¬(b<=i/\i<b+n)->d'[i]! =d[i]!
theorem XR.zero (d:Array α)(a b:Nat):XR d d a b 0:=⟨rfl,fun t h=>by omega,fun t h=>by omega,fun _ _ _=>rfl⟩
theorem XR.step {d e:Array α}{a b n:Nat}(h:XR d e a b n)(h1:a+n<b)(h2:b+n<d.size):XR d (swp e (a+n) (b+n)) a b (n+1):=by
 have hz:=h.sz;have G:=fun k=>swp_get e (i:=a+n) (j:=b+n) (by omega) (by omega) k;refine⟨by rw[swp_size];exact hz,fun t ht=>?_,fun t ht=>?_,fun i hi hj=>?_⟩
 ·rw[G,if_neg (by omega)];by_cases h0:t=n
  ·subst h0;rw[if_pos rfl];exact h.out _ (by omega) (by omega)
  ·rw[if_neg (by omega)];exact h.lf t (by omega)
 ·rw[G];by_cases h0:t=n
  ·subst h0;rw[if_pos rfl];exact h.out _ (by omega) (by omega)
  ·rw[if_neg (by omega),if_neg (by omega)];exact h.rt t (by omega)
 ·rw[G,if_neg (by omega),if_neg (by omega)];exact h.out i (by omega) (by omega)
structure Eb (d d':Array α)(lo m hi:Nat):Prop where
 sz:d'.size=d.size
 out:∀i,i<lo\/hi<=i->d'[i]! =d[i]!
 lf:∀t,t<hi-m->d'[lo+t]! =d[m+t]!
 rt:∀t,t<m-lo->d'[lo+(hi-m)+t]! =d[lo+t]!
theorem Eb.mv {d e:Array α}{lo m hi:Nat}(h:Eb d e lo m hi)(h1:lo<=m)(h2:m<=hi):uF d e lo hi:=by
 refine⟨h.sz,h.out,fun x=>⟨?_,?_⟩⟩
 ·rintro⟨i,i1,i2,rfl⟩;by_cases hi0:i-lo<hi-m
  ·have:=h.lf (i-lo) hi0;rw[show lo+(i-lo)=i from by omega] at this;exact⟨m+(i-lo),by omega,by omega,this.symm⟩
  ·have:=h.rt (i-lo-(hi-m)) (by omega);rw[show lo+(hi-m)+(i-lo-(hi-m))=i from by omega] at this;exact⟨lo+(i-lo-(hi-m)),by omega,by omega,this.symm⟩
 ·rintro⟨i,i1,i2,rfl⟩;by_cases hi0:i<m
  ·have:=h.rt (i-lo) (by omega);rw[show lo+(i-lo)=i from by omega] at this;exact⟨lo+(hi-m)+(i-lo),by omega,by omega,this⟩
  ·have:=h.lf (i-m) (by omega);rw[show m+(i-m)=i from by omega] at this;exact⟨lo+(i-m),by omega,by omega,this⟩
theorem Eb.more {d e f:Array α}{m i j:Nat}(hi:i<=m)(hij:j<i)(h:XR d e (m-i) m j)(h':Eb e f (m-(i-j)) m (m+j)):Eb d f (m-i) m (m+j):=by
 refine⟨h'.sz.trans h.sz,fun k hk=>?_,fun t ht=>?_,fun t ht=>?_⟩
 ·rw[h'.out k (by omega)];exact h.out k (by omega) (by omega)
 ·rw[h'.out _ (by omega)];exact h.lf t (by omega)
 ·by_cases ht0:t<j
  ·have:=h'.lf t (by omega);rw[show m-(i-j)+t=m-i+(m+j-m)+t from by omega] at this;rw[this];exact h.rt t ht0
  ·have:=h'.rt (t-j) (by omega);rw[show m-(i-j)+(m+j-m)+(t-j)=m-i+(m+j-m)+t from by omega] at this;rw[this,show m-(i-j)+(t-j)=m-i+t from by omega];exact h.out _ (by omega) (by omega)
theorem Eb.less {d e f:Array α}{m i j:Nat}(hi:i<=m)(hij:i<j)(h:XR d e (m-i) (m+j-i) i)(h':Eb e f (m-i) m (m+(j-i))):Eb d f (m-i) m (m+j):=by
 refine⟨h'.sz.trans h.sz,fun k hk=>?_,fun t ht=>?_,fun t ht=>?_⟩
 ·rw[h'.out k (by omega)];exact h.out k (by omega) (by omega)
 ·by_cases ht0:t<j-i
  ·have:=h'.lf t (by omega);rw[this];exact h.out _ (by omega) (by omega)
  ·have:=h'.rt (t-(j-i)) (by omega);rw[show m-i+(m+(j-i)-m)+(t-(j-i))=m-i+t from by omega] at this;rw[this,h.lf _ (by omega),show m+j-i+(t-(j-i))=m+t from by omega]
 ·have:=h'.out (m-i+(m+j-m)+t) (by omega);rw[this,show m-i+(m+j-m)+t=m+j-i+t from by omega];exact h.rt t (by omega)
theorem Eb.last {d e:Array α}{m i:Nat}(hi:i<=m)(h:XR d e (m-i) m i):Eb d e (m-i) m (m+i):=by
 refine⟨h.sz,fun k hk=>h.out k (by omega) (by omega),fun t ht=>h.lf t (by omega),fun t ht=>?_⟩;rw[show m-i+(m+i-m)+t=m+t from by omega];exact h.rt t (by omega)
end
section
variable {α:Type}[Inhabited α]{key:α->Int}{tag:α->Nat}
structure qI (key:α->Int)(tag:α->Nat)(d:Array α)(a m b:Nat):Prop where
 am:a<m
 mb:m<b
 sz:b<=d.size
 l:Lt key tag d a m
 r:Lt key tag d m b
 x:∀i j,a<=i->i<m->m<=j->j<b->tag d[i]! < tag d[j]!
structure rE (key:α->Int)(tag:α->Nat)(d d':Array α)(a b:Nat):Prop where
 mv:uF d d' a b
 s:Lt key tag d' a b
theorem qI.less {d:Array α}{a m b:Nat}(h:qI key tag d a m b){i j:Nat}(h1:a<=i)(h2:i<m)(h3:m<=j)(h4:j<b)(hk:¬key d[j]! < key d[i]!):yg key tag d[i]! d[j]! :=by
 have:=h.x i j h1 h2 h3 h4;unfold yg;omega
theorem qI.carry {d e:Array α}{a m b u v:Nat}(h:qI key tag d a m b)(hm:uF d e u v)(hd:v<=a\/b<=u):qI key tag e a m b:=by
 refine⟨h.am,h.mb,by rw[hm.sz];exact h.sz,hm.srt h.l (by have:=h.mb;omega),hm.srt h.r (by have:=h.am;omega),fun i j h1 h2 h3 h4=>?_⟩;have:=h.am;have:=h.mb;rw[hm.out i (by omega),hm.out j (by omega)];exact h.x i j h1 h2 h3 h4
structure ShL (d d':Array α)(a e:Nat):Prop where
 sz:d'.size=d.size
 mid:∀k,a<=k->k<e->d'[k]! =d[k+1]!
 last:d'[e]! =d[a]!
 out:∀k,k<a\/e<k->d'[k]! =d[k]!
theorem ShL.zero (d:Array α)(a:Nat):ShL d d a a:=⟨rfl,fun k h1 h2=>by omega,rfl,fun _ _=>rfl⟩
theorem ShL.step {d e:Array α}{a k:Nat}(h:ShL d e a k)(hak:a<=k)(hk:k+1<d.size):ShL d (swp e k (k+1)) a (k+1):=by
 have hz:=h.sz;have G:=fun t=>swp_get e (i:=k) (j:=k+1) (by omega) (by omega) t;refine⟨by rw[swp_size];exact hz,fun t h1 h2=>?_,by rw[G,if_pos rfl];exact h.last,fun t ht=>?_⟩
 ·rw[G,if_neg (by omega)];by_cases h0:t=k
  ·rw[if_pos h0,h0];exact h.out (k+1) (by omega)
  ·rw[if_neg h0];exact h.mid t h1 (by omega)
 ·rw[G,if_neg (by omega),if_neg (by omega)];exact h.out t (by omega)
theorem ShL.mv {d d':Array α}{a e:Nat}(h:ShL d d' a e)(hae:a<=e):uF d d' a (e+1):=by
 refine⟨h.sz,fun i hi=>h.out i (by omega),fun x=>⟨?_,?_⟩⟩
 ·rintro⟨i,h1,h2,rfl⟩;by_cases h0:i=e
  ·exact⟨a,by omega,by omega,by rw[h0];exact h.last.symm⟩
  ·exact⟨i+1,by omega,by omega,(h.mid i h1 (by omega)).symm⟩
 ·rintro⟨i,h1,h2,rfl⟩;by_cases h0:i=a
  ·exact⟨e,by omega,by omega,by rw[h0];exact h.last⟩
  ·have:=h.mid (i-1) (by omega) (by omega);rw[show i-1+1=i from by omega] at this;exact⟨i-1,by omega,by omega,this⟩
theorem Lu {d d':Array α}{a b i:Nat}(h:qI key tag d a (a+1) b)(h1:a+1<=i)(h2:i<=b)(lo:∀k,a+1<=k->k<i->key d[k]! < key d[a]!)(hi:∀k,i<=k->k<b->¬key d[k]! < key d[a]!)(hs:ShL d d' a (i-1)):rE key tag d d' a b:=by
 refine⟨(hs.mv (by omega)).mono ai (by omega),fun u v hu huv hv=>?_⟩;have up:∀k,i<=k->k<b->yg key tag d[a]! d[k]! :=fun k k1 k2=>h.less ai (by omega) (by omega) k2 (hi k k1 k2);by_cases c1:v<i-1
 ·rw[hs.mid u hu (by omega),hs.mid v (by omega) c1];exact h.r _ _ (by omega) (by omega) (by omega)
 ·by_cases c2:v=i-1
  ·rw[hs.mid u hu (by omega),c2,hs.last];exact .inl (lo _ (by omega) (by omega))
  ·rw[hs.out v (by omega)];by_cases c3:u<i-1
   ·rw[hs.mid u hu c3];exact h.r _ _ (by omega) (by omega) hv
   ·by_cases c4:u=i-1
    ·rw[c4,hs.last];exact up v (by omega) hv
    ·rw[hs.out u (by omega)];exact h.r _ _ (by omega) huv hv
structure ShD (d d':Array α)(k m:Nat):Prop where
 sz:d'.size=d.size
 mid:∀t,k<t->t<=m->d'[t]! =d[t-1]!
 first:d'[k]! =d[m]!
 out:∀t,t<k\/m<t->d'[t]! =d[t]!
theorem ShD.zero (d:Array α)(m:Nat):ShD d d m m:=⟨rfl,fun k h1 h2=>by omega,rfl,fun _ _=>rfl⟩
theorem ShD.step {d e:Array α}{k m:Nat}(h:ShD d e (k+1) m)(hk:k+1<=m)(hm:m<d.size):ShD d (swp e (k+1) k) k m:=by
 have hz:=h.sz;have G:=fun t=>swp_get e (i:=k+1) (j:=k) (by omega) (by omega) t;refine⟨by rw[swp_size];exact hz,fun t h1 h2=>?_,by rw[G,if_pos rfl];exact h.first,fun t ht=>?_⟩
 ·rw[G,if_neg (by omega)];by_cases h0:t=k+1
  ·rw[if_pos h0,h0];exact h.out k (by omega)
  ·rw[if_neg h0];exact h.mid t (by omega) h2
 ·rw[G,if_neg (by omega),if_neg (by omega)];exact h.out t (by omega)
theorem ShD.mv {d d':Array α}{k m:Nat}(h:ShD d d' k m)(hk:k<=m):uF d d' k (m+1):=by
 refine⟨h.sz,fun i hi=>h.out i (by omega),fun x=>⟨?_,?_⟩⟩
 ·rintro⟨i,h1,h2,rfl⟩;by_cases h0:i=k
  ·exact⟨m,by omega,by omega,by rw[h0];exact h.first.symm⟩
  ·exact⟨i-1,by omega,by omega,(h.mid i (by omega) (by omega)).symm⟩
 ·rintro⟨i,h1,h2,rfl⟩;by_cases h0:i=m
  ·exact⟨k,by omega,by omega,by rw[h0];exact h.first⟩
  ·exact⟨i+1,by omega,by omega,by rw[h.mid (i+1) (by omega) (by omega)];simp⟩
theorem Ol {d d':Array α}{a m i:Nat}(h:qI key tag d a m (m+1))(h1:a<=i)(h2:i<=m)(lo:∀k,a<=k->k<i->¬key d[m]! < key d[k]!)(hi:∀k,i<=k->k<m->key d[m]! < key d[k]!)(hs:ShD d d' i m):rE key tag d d' a (m+1):=by
 refine⟨(hs.mv h2).mono h1 ai,fun u v hu huv hv=>?_⟩;have dn:∀k,a<=k->k<i->yg key tag d[k]! d[m]! :=fun k k1 k2=>h.less k1 (by omega) ai (by omega) (lo k k1 k2);by_cases c1:u<i
 ·rw[hs.out u (by omega)];by_cases c2:v<i
  ·rw[hs.out v (by omega)];exact h.l _ _ hu huv (by omega)
  ·by_cases c3:v=i
   ·rw[c3,hs.first];exact dn u hu c1
   ·rw[hs.mid v (by omega) (by omega)];exact h.l _ _ hu (by omega) (by omega)
 ·rw[hs.mid v (by omega) (by omega)];by_cases c2:u=i
  ·rw[c2,hs.first];exact .inl (hi _ (by omega) (by omega))
  ·rw[hs.mid u (by omega) (by omega)];exact h.l _ _ (by omega) (by omega) (by omega)
structure zV (key:α->Int)(d:Array α)(a m b n s0 r0 s r:Nat):Prop where
 w:(n-m<m/\s0=n-b/\r0=n-m)\/(m<=n-m/\s0=a/\r0=m)
 nm:n=(a+b)/2+m
 s1:s0<=s
 s2:s<=r
 s3:r<=r0
 lo:∀c,s0<=c->c<s->¬key d[n-1-c]! < key d[c]!
 hi:∀c,r<=c->c<r0->key d[n-1-c]! < key d[c]!
theorem zV.up {d:Array α}{a m b n s0 r0 s r c:Nat}(h:zV key d a m b n s0 r0 s r)(hp:qI key tag d a m b)(h1:s<=c)(h2:c<r)(hk:¬key d[n-1-c]! < key d[c]!):zV key d a m b n s0 r0 (c+1) r:=by
 refine⟨h.w,h.nm,by have:=h.s1;omega,by omega,h.s3,fun x x1 x2=>?_,h.hi⟩;by_cases h0:x=c
 ·rw[h0];exact hk
 ·have q1:=h.w;have q2:=h.nm;have q3:=h.s3;have q4:=hp.am;have q5:=hp.mb;have l1:=(hp.l x c (by omega) (by omega) (by omega)).le;have l2:=(hp.r (n-1-c) (n-1-x) (by omega) (by omega) (by omega)).le;omega
theorem zV.down {d:Array α}{a m b n s0 r0 s r c:Nat}(h:zV key d a m b n s0 r0 s r)(hp:qI key tag d a m b)(h1:s<=c)(h2:c<r)(hk:key d[n-1-c]! < key d[c]!):zV key d a m b n s0 r0 s c:=by
 refine⟨h.w,h.nm,h.s1,h1,by have:=h.s3;omega,h.lo,fun x x1 x2=>?_⟩;by_cases h0:x=c
 ·rw[h0];exact hk
 ·have q1:=h.w;have q2:=h.nm;have q3:=h.s3;have q4:=hp.am;have q5:=hp.mb;have q6:=h.s1;have l1:=(hp.l c x (by omega) (by omega) (by omega)).le;have l2:=(hp.r (n-1-x) (n-1-c) (by omega) (by omega) (by omega)).le;omega
structure Co (key:α->Int)(tag:α->Nat)(d:Array α)(a s mid e b:Nat):Prop where
 h1:a<s/\s<mid->qI key tag d a s mid
 h1':¬(a<s/\s<mid)->Lt key tag d a mid
 h2:mid<e/\e<b->qI key tag d mid e b
 h2':¬(mid<e/\e<b)->Lt key tag d mid b
 x:∀u v,a<=u->u<mid->mid<=v->v<b->yg key tag d[u]! d[v]!
theorem zV.turn {d f:Array α}{a m b n s0 r0 s mid:Nat}(h:zV key d a m b n s0 r0 s s)(hp:qI key tag d a m b)(hr:Eb d f s m (n-s))(hmid:mid=(a+b)/2):Co key tag f a s mid (n-s) b:=by
 have q1:=h.w;have q2:=h.nm;have q3:=h.s3;have q4:=hp.am;have q5:=hp.mb;have q6:=h.s1;have qz:=hp.sz;have e1:∀i,i<s->f[i]! =d[i]! :=fun i hi=>hr.out i (.inl hi);have e4:∀i,n-s<=i->f[i]! =d[i]! :=fun i hi=>hr.out i (.inr hi);have e2:∀i,s<=i->i<mid->f[i]! =d[m+(i-s)]! :=fun i i1 i2=>by
  have:=hr.lf (i-s) (by omega);rwa[show s+(i-s)=i from by omega] at this
 have e3:∀i,mid<=i->i<n-s->f[i]! =d[s+(i-mid)]! :=fun i i1 i2=>by
  have:=hr.rt (i-mid) (by omega);rwa[show s+(n-s-m)+(i-mid)=i from by omega] at this
 have LL:∀u v,a<=u->u<v->v<m->yg key tag d[u]! d[v]! :=hp.l;have RR:∀u v,m<=u->u<v->v<b->yg key tag d[u]! d[v]! :=hp.r;have s1:Lt key tag f a s:=fun u v a1 a2 a3=>by rw[e1 u (by omega),e1 v (by omega)];exact LL u v a1 a2 (by omega)
 have s2:Lt key tag f s mid:=fun u v a1 a2 a3=>by rw[e2 u (by omega) (by omega),e2 v (by omega) (by omega)];exact RR _ _ (by omega) (by omega) (by omega)
 have s3:Lt key tag f mid (n-s):=fun u v a1 a2 a3=>by rw[e3 u (by omega) (by omega),e3 v (by omega) (by omega)];exact LL _ _ (by omega) (by omega) (by omega)
 have s4:Lt key tag f (n-s) b:=fun u v a1 a2 a3=>by rw[e4 u (by omega),e4 v (by omega)];exact RR _ _ (by omega) (by omega) (by omega)
 refine⟨fun hh=>⟨hh.1,hh.2,by rw[hr.sz];omega,s1,s2,fun i j i1 i2 i3 i4=>?_⟩,fun hh=>?_,fun hh=>⟨hh.1,hh.2,by rw[hr.sz];omega,s3,s4,fun i j i1 i2 i3 i4=>?_⟩,fun hh=>?_,fun u v a1 a2 a3 a4=>?_⟩
 ·rw[e1 i i2,e2 j i3 i4];exact hp.x _ _ i1 (by omega) (by omega) (by omega)
 ·by_cases h0:s=a
  ·rw[<- h0];exact s2
  ·rw[show mid=s from by omega];exact s1
 ·rw[e3 i i1 i2,e4 j i3];exact hp.x _ _ (by omega) (by omega) (by omega) i4
 ·by_cases h0:n-s=b
  ·rw[<- h0];exact s3
  ·rw[show mid=n-s from by omega];exact s4
 ·by_cases cu:u<s
  ·rw[e1 u cu];by_cases cv:v<n-s
   ·rw[e3 v a3 cv];exact LL _ _ a1 (by omega) (by omega)
   ·rw[e4 v (by omega)];have hk:=h.lo (s-1) (by omega) (by omega);rw[show n-1-(s-1)=n-s from by omega] at hk;have l0:=hp.less (i:=s-1) (j:=n-s) (by omega) (by omega) (by omega) (by omega) hk;have l1:yg key tag d[u]! d[n-s]! :=by
     by_cases c0:u=s-1
     ·rw[c0];exact l0
     ·exact(LL u (s-1) a1 (by omega) (by omega)).trans l0
    by_cases c0:v=n-s
    ·rw[c0];exact l1
    ·exact l1.trans (RR _ _ (by omega) (by omega) a4)
  ·rw[e2 u (by omega) a2];by_cases cv:v<n-s
   ·rw[e3 v a3 cv];have hk:=h.hi s ai (by omega);have l0:yg key tag d[n-1-s]! d[s]! := .inl hk;have l1:yg key tag d[m+(u-s)]! d[s]! :=by
     by_cases c0:m+(u-s)=n-1-s
     ·rw[c0];exact l0
     ·exact(RR _ _ (by omega) (by omega) (by omega)).trans l0
    by_cases c0:s+(v-mid)=s
    ·rw[c0];exact l1
    ·exact l1.trans (LL _ _ (by omega) (by omega) (by omega))
   ·rw[e4 v (by omega)];exact RR _ _ (by omega) (by omega) a4
theorem Co.done {d e f:Array α}{a s mid t b:Nat}(h:Co key tag d a s mid t b)(ham:a<=mid)(hmb:mid<=b)(h1:rE key tag d e a mid)(h2:rE key tag e f mid b):rE key tag d f a b:=by
 refine⟨(h1.mv.mono ai hmb).trans (h2.mv.mono ham ai),fun u v a1 a2 a3=>?_⟩;by_cases c1:v<mid
 ·rw[h2.mv.out u (by omega),h2.mv.out v (by omega)];exact h1.s u v a1 a2 c1
 ·by_cases c2:mid<=u
  ·exact h2.s u v c2 a2 a3
  ·rw[h2.mv.out u (by omega)];obtain⟨k,k1,k2,k3⟩:=(h1.mv.same _).1 ⟨u,a1,by omega,rfl⟩;obtain⟨j,j1,j2,j3⟩:=(h2.mv.same _).1 ⟨v,by omega,a3,rfl⟩;rw[<- k3,<- j3,h1.mv.out j (by omega)];exact h.x k j k1 k2 j1 j2
theorem Eb.none {d:Array α}{s m e:Nat}(h:¬(s<m/\m<e))(h1:s<=m)(h2:m<=e):Eb d d s m e:=by
 refine⟨rfl,fun _ _=>rfl,fun t ht=>?_,fun t ht=>?_⟩
 ·rw[show s+t=m+t from by omega]
 ·rw[show s+(e-m)+t=s+t from by omega]
inductive mV (key:α->Int) (tag:α->Nat) (d:Array α) (bs n:Nat):Nat->Prop
 |stop {a:Nat} (h:n<=a):mV key tag d bs n a
 |run {a:Nat} (h:a<n) (s:Lt key tag d a (min (a+bs) n)) (t:∀i,a<=i->i<min (a+bs) n->a<=tag d[i]! /\ tag d[i]! < a+bs) (r:mV key tag d bs n (a+bs)):mV key tag d bs n a
theorem mV.carry {d e:Array α}{bs n a:Nat}(h:mV key tag d bs n a):∀(_:∀i,a<=i->i<n->e[i]! =d[i]!),mV key tag e bs n a:=by
 induction h with
 |stop h=>exact fun _=>.stop h
 |run h s t r ih=>
  intro hh;refine .run h (fun u v a1 a2 a3=>?_) (fun i a1 a2=>?_) (ih (fun i h1 h2=>hh i (by omega) h2))
  ·rw[hh u a1 (by omega),hh v (by omega) (by omega)];exact s u v a1 a2 a3
  ·rw[hh i a1 (by omega)];exact t i a1 a2
def mG (key:α->Int)(tag:α->Nat)(d:Array α)(bs n a:Nat):Prop:=∀e:Array α,(∀i,i<a->e[i]! =d[i]!)->mV key tag e bs n a->mV key tag e bs n 0
theorem mG.zero (d:Array α)(bs n:Nat):mG key tag d bs n 0:=fun _ _ h=>h
theorem mG.done {d:Array α}{bs n a:Nat}(h:mG key tag d bs n a)(h2:mV key tag d bs n a):mV key tag d bs n 0:=h d (fun _ _=>rfl) h2
theorem mG.more {d e:Array α}{bs n a:Nat}(h:mG key tag d bs n a)(han:a<n)(hm:uF d e a (min (a+bs) n))(hs:Lt key tag e a (min (a+bs) n))(ht:∀i,a<=i->i<min (a+bs) n->a<=tag d[i]! /\ tag d[i]! < a+bs):mG key tag e bs n (a+bs):=fun f hf hr=>by
 refine h f (fun i hi=>(hf i (by omega)).trans (hm.out i (.inl hi))) (.run han (fun u v a1 a2 a3=>?_) (fun i a1 a2=>?_) hr)
 ·rw[hf u (by omega),hf v (by omega)];exact hs u v a1 a2 a3
 ·rw[hf i (by omega)];obtain⟨k,k1,k2,k3⟩:=(hm.same _).1 ⟨i,a1,a2,rfl⟩;rw[<- k3];exact ht k k1 k2
theorem mV.pre {d:Array α}{bs n a b:Nat}(h:mV key tag d bs n a)(hbs:0<bs)(hb:b=min (a+2*bs) n)(hm:a+bs<n)(hn:n<=d.size):qI key tag d a (a+bs) b/\(∀i,a<=i->i<b->a<=tag d[i]! /\ tag d[i]! < a+2*bs)/\mV key tag d bs n (a+2*bs):=by
 cases h with
 |stop h=>omega
 |run h s t r=>
  cases r with
  |stop h=>omega
  |run h' s' t' r'=>
   rw[show min (a+bs) n=a+bs from by omega] at s t;rw[show min (a+bs+bs) n=b from by omega] at s' t';rw[show a+bs+bs=a+2*bs from by omega] at r';refine⟨⟨by omega,by omega,by omega,s,s',fun i j i1 i2 i3 i4=>?_⟩,fun i i1 i2=>?_,r'⟩
   ·have x1:=t i i1 i2;have x2:=t' j i3 i4;omega
   ·by_cases h0:i<a+bs
    ·have x1:=t i i1 h0;omega
    ·have x2:=t' i (by omega) i2;omega
theorem mV.single {d:Array α}{bs n a:Nat}(h:mV key tag d bs n a)(hm:n<=a+bs):mV key tag d (2*bs) n a:=by
 cases h with
 |stop h=>exact .stop h
 |run h s t r=>
  refine .run h ?_ (fun i i1 i2=>?_) (.stop (by omega))
  ·rw[show min (a+2*bs) n=min (a+bs) n from by omega];exact s
  ·have:=t i i1 (by omega);omega
theorem mV.whole {d:Array α}{bs n:Nat}(h:mV key tag d bs n 0)(hn:n<=bs):Lt key tag d 0 n:=by
 cases h with
 |stop h=>exact fun u v a1 a2 a3=>by omega
 |run h s t r=>rw[show min (0+bs) n=n from by omega] at s;exact s
end
end
section
open Go.RowKit Go.Shelf Go.Sort Go.Lib
set_option maxRecDepth 100000
structure S5 where
 nd:Int
 o:Option Addr
 len:Nat
 cap:Nat
 fill:aC
 rule:aC
 lv:Int
 tag:Nat
instance:Inhabited S5:=⟨⟨0,none,0,0,⟨#[]⟩,⟨#[]⟩,0,0⟩⟩
def uG (x:S5):List ah:=[aa x.nd,.slice x.o x.len x.cap,.string x.fill,.string x.rule,aa x.lv]
theorem a5H (x:S5):(uG x).length=5:=rfl
abbrev oO (w0:ag)(blk off:Nat)(d:Array S5)(W:ag):Prop:=SWK uG 5 w0 blk off d W
theorem oO.drew {w0 W:ag}{blk off:Nat}{d:Array S5}(h:oO w0 blk off d W):oO w0 blk off d W.drew:=SWK.drewN h 1
section
variable {w0:ag}{blk off:Nat}{d0:Array S5}
structure C5 (w:ag)(b o:Nat)(x:S5):Prop where
 c0:w.cell? (ak b o)=some (aa x.nd)
 c1:w.cell? (ak b (o+1))=some (.slice x.o x.len x.cap)
 c2:w.cell? (ak b (o+2))=some (.string x.fill)
 c3:w.cell? (ak b (o+3))=some (.string x.rule)
 c4:w.cell? (ak b (o+4))=some (aa x.lv)
 f0:w.frozen? ⟨b,o,none⟩=false
 f1:w.frozen? ⟨b,o+1,none⟩=false
 f2:w.frozen? ⟨b,o+2,none⟩=false
 f3:w.frozen? ⟨b,o+3,none⟩=false
 f4:w.frozen? ⟨b,o+4,none⟩=false
theorem l8 {d:Array S5}{W:ag}(h:oO w0 blk off d W)(hblk:blk<w0.heap.size)(h0:HoldsK uG 5 w0 blk off d0)(hs:d.size=d0.size){i:Nat}(hi:i<d.size):C5 W blk (off+i*5) d[i]! :=by
 have H:=fun c hc=>HoldsK.cell (SWK.holds h hblk h0 hs) (i:=i) hi (c:=c) hc;obtain⟨a0,b0⟩:=H 0 (by decide);obtain⟨a1,b1⟩:=H 1 (by decide);obtain⟨a2,b2⟩:=H 2 (by decide);obtain⟨a3,b3⟩:=H 3 (by decide);obtain⟨a4,b4⟩:=H 4 (by decide);exact⟨a0,a1,a2,a3,a4,b0,b1,b2,b3,b4⟩
theorem Ab {e:Array S5}{wr:ag}(hE:oO w0 blk off e wr)(hblk:blk<w0.heap.size){i j:Nat}(hi:i<e.size)(hj:j<e.size):
  oO w0 blk off (swp e i j) ((((((((((wr.setCell ⟨blk,off+i*5,none⟩ (aa e[j]!.nd)).setCell ⟨blk,off+i*5+1,none⟩ (.slice e[j]!.o e[j]!.len e[j]!.cap)).setCell ⟨blk,off+i*5+2,none⟩ (.string e[j]!.fill)).setCell ⟨blk,off+i*5+3,none⟩ (.string e[j]!.rule)).setCell ⟨blk,off+i*5+4,none⟩ (aa e[j]!.lv)).setCell ⟨blk,off+j*5,none⟩ (aa e[i]!.nd)).setCell ⟨blk,off+j*5+1,none⟩ (.slice e[i]!.o e[i]!.len e[i]!.cap)).setCell ⟨blk,off+j*5+2,none⟩ (.string e[i]!.fill)).setCell ⟨blk,off+j*5+3,none⟩ (.string e[i]!.rule)).setCell ⟨blk,off+j*5+4,none⟩ (aa e[i]!.lv)).drew:=by
 obtain⟨m,os,rfl⟩:=hE;have h:=sortWorldK_swp_c uG 5 w0 blk off a5H m e os hblk i j hi hj;have h1:((((sortWorldK uG 5 w0 blk off m e os).drewN 1).setCells blk (off+i*5) (uG e[j]!)).setCells blk (off+j*5) (uG e[i]!))=sortWorldK uG 5 w0 blk off (m+1) (swp e i j) os:=h;rw[setCells_drewN,setCells_drewN] at h1;exact⟨m+1,os,h1⟩
theorem Ew (hblk:blk<w0.heap.size)(h0:HoldsK uG 5 w0 blk off d0)(hz:d0.size<=1000){d:Array S5}(hs:d.size=d0.size){W:ag}(hW:oO w0 blk off d W)(cap a b n:Nat)(hab:a+n<=b)(hb:b+n<=d.size)(cmp:ah):
  au 249 #[.slice (some ⟨blk,off,none⟩) d0.size cap,aa a,aa b,aa n,cmp] W fun e w'=>e=.returned (.tuple #[])/\∃d',XR d d' a b n/\oO w0 blk off d' w':=by
 have HW:=aj hW;have H0:=aj h0;clear hW h0;go_enter func249,ntmps249;go_wp2
 go_loopw [10] (fun y wr=>∃(i:Nat) (e:Array S5),y=aa i/\i<=n/\XR d e a b i/\oO w0 blk off e wr) (fun y _=>n-(intOf y).toNat)
 case atStart=>exact⟨0,d,rfl,aP _,XR.zero _ _ _,HW.out⟩
 case round=>
  obtain⟨i,e,rfl,hin,hR,hE⟩:=hrel;have HR:=aj hR;have HE:=aj hE;have XT:e.size=d.size:=hR.sz;by_cases hi:i<n
  ·have hiz:(i:Int)<(n:Int):=by omega
   obtain⟨a0,a1,a2,a3,a4,fa0,fa1,fa2,fa3,fa4⟩:=l8 hE hblk H0.out (XT.trans hs) (i:=a+i) (by omega);obtain⟨b0,b1,b2,b3,b4,fb0,fb1,fb2,fb3,fb4⟩:=l8 hE hblk H0.out (XT.trans hs) (i:=b+i) (by omega);have ea:IntKind.i64.wrap ((a:Int)+(i:Int))=((a+i:Nat):Int):=by rw[IntKind.wrap_i64];omega
   have eb:IntKind.i64.wrap ((b:Int)+(i:Int))=((b+i:Nat):Int):=by rw[IntKind.wrap_i64];omega
   have EQ:Hid _:=Ab hE hblk (i:=a+i) (j:=b+i) (by omega) (by omega);clear hR hE;have ja:((a+i:Nat):Int)<(d0.size:Int):=by omega
   have jb:((b+i:Nat):Int)<(d0.size:Int):=by omega
   obtain⟨xa,hxa⟩:∃x,e[a+i]! =x:=⟨_,rfl⟩;obtain⟨xb,hxb⟩:∃x,e[b+i]! =x:=⟨_,rfl⟩;rw[hxa] at a0 a1 a2 a3 a4 EQ;rw[hxb] at b0 b1 b2 b3 b4 EQ;have CC:Hid (e[a+i]! =xa/\e[b+i]! =xb):=⟨hxa,hxb⟩;clear hxa hxb;go_wp2_with fail
   go_big_region
   all_goals go_wp2
   go_roundw
   case rel=>
    refine⟨i+1,swp e (a+i) (b+i),by go_num,hi,HR.out.step (by omega) (by omega),?_⟩;exact EQ.out
   case measure=>simp[intOf];omega
  ·have hiz:¬(i:Int)<(n:Int):=by omega
   obtain rfl:i=n:=by omega
   go_wp2
   go_end0
   exact⟨rfl,e,HR.out,HE.out⟩
end
section
variable {w0:ag}{blk off:Nat}{d0:Array S5}
theorem Om (hblk:blk<w0.heap.size)(h0:HoldsK uG 5 w0 blk off d0)(hz:d0.size<=1000){d:Array S5}(hs:d.size=d0.size){W:ag}(hW:oO w0 blk off d W)(cap a m b:Nat)(ham:a<m)(hmb:m<b)(hb:b<=d.size)(cmp:ah):
  au 204 #[.slice (some ⟨blk,off,none⟩) d0.size cap,aa a,aa m,aa b,cmp] W fun e w'=>e=.returned (.tuple #[])/\∃d',Eb d d' a m b/\oO w0 blk off d' w':=by
 have SR:=fun(e:Array S5) (he:e.size=d0.size) (V:ag) (hV:oO w0 blk off e V) (x y n:Nat) (h1:x+n<=y) (h2:y+n<=e.size)=>Ew hblk h0 hz he hV cap x y n h1 h2 cmp;have HS:Hid _:=SR;have HW:=aj hW;clear SR hW h0;go_enter func204,ntmps204;have e1:IntKind.i64.wrap ((m:Int)-(a:Int))=((m-a:Nat):Int):=by rw[IntKind.wrap_i64];omega
 have e2:IntKind.i64.wrap ((b:Int)-(m:Int))=((b-m:Nat):Int):=by rw[IntKind.wrap_i64];omega
 go_upto_region 2 with fail
 go_loopw [10,11] (fun x y wr=>∃(i j:Nat) (e:Array S5),x=aa i/\y=aa j/\0<i/\0<j/\i<=m-a/\j<=b-m/\e.size=d.size/\(∀f,Eb e f (m-i) m (m+j)->Eb d f a m b)/\oO w0 blk off e wr) (fun x y _=>(intOf x).toNat+(intOf y).toNat)
 case atStart=>exact⟨m-a,b-m,d,by go_num,by go_num,by omega,by omega,Nat.le_refl _,Nat.le_refl _,rfl,fun f h=>by rwa[show m-(m-a)=a from by omega,show m+(b-m)=b from by omega] at h,HW.out⟩
 case round=>
  obtain⟨i,j,e,rfl,rfl,hi0,hj0,hi,hj,XT,hR,hE⟩:=hrel;have HR:=aj hR;clear hR;have w1:IntKind.i64.wrap ((m:Int)-(i:Int))=((m-i:Nat):Int):=by rw[IntKind.wrap_i64];omega
  by_cases hij:i=j
  ·subst hij;have q0:((i:Int)==(i:Int))=true:=by simp
   have SC:=HS.out e (XT.trans hs) wr hE (m-i) m i (by omega) (by omega);clear hE;go_wp2_with(go_at_call 249;refine SC.mono ?_;rintro e w1 ⟨rfl,d',hd,hw⟩)
   go_end0
   exact⟨rfl,d',HR.out _ (Eb.last (by omega) hd),hw⟩
  ·have q0:((i:Int)==(j:Int))=false:=by simp;omega
   by_cases hgt:j<i
   ·have q1:(j:Int)<(i:Int):=by omega
    have SC:=HS.out e (XT.trans hs) wr hE (m-i) m j (by omega) (by omega);have w2:IntKind.i64.wrap ((i:Int)-(j:Int))=((i-j:Nat):Int):=by rw[IntKind.wrap_i64];omega
    clear hE;go_wp2_with(go_at_call 249;refine SC.mono ?_;rintro e w1 ⟨rfl,d',hd,hw⟩)
    go_roundw
    case rel=>exact⟨i-j,j,d',by go_num,rfl,by omega,hj0,by omega,hj,hd.sz.trans XT,fun f hf=>HR.out f (Eb.more (by omega) hgt hd hf),hw⟩
    case measure=>simp[intOf];omega
   ·have q1:¬(j:Int)<(i:Int):=by omega
    have SC:=HS.out e (XT.trans hs) wr hE (m-i) (m+j-i) i (by omega) (by omega);have w2:IntKind.i64.wrap ((j:Int)-(i:Int))=((j-i:Nat):Int):=by rw[IntKind.wrap_i64];omega
    have w4:IntKind.i64.wrap ((m:Int)+(j:Int)-(i:Int))=((m+j-i:Nat):Int):=by rw[IntKind.wrap_i64];omega
    clear hE;go_wp2_with(go_at_call 249;refine SC.mono ?_;rintro e w1 ⟨rfl,d',hd,hw⟩)
    go_roundw
    case rel=>exact⟨i,j-i,d',rfl,by go_num,hi0,by omega,hi,by omega,hd.sz.trans XT,fun f hf=>HR.out f (Eb.less (by omega) (by omega) hd hf),hw⟩
    case measure=>simp[intOf];omega
end
theorem I8:prog.follows .mixedOrders=true:=by kernel_rfl
abbrev pR:ah:=.func (.func 53) #[] #[]
abbrev s5A (x:S5):Array ah:=#[aa x.nd,.slice x.o x.len x.cap,.string x.fill,.string x.rule,aa x.lv]
theorem I9 (x y:Int)(w:ag):
  au 54 #[aa x,aa y] w fun e w'=>e=.returned (aa (Ec (x-y)))/\w'=w:=by
 rcases Int.lt_trichotomy x y with h|h|h
 ·have e:Ec (x-y)= -1:=by unfold Ec;rw[if_pos (by omega)]
  rw[e];have h2:¬x>y:=by omega
  go_enter func54,ntmps54;go_wp2;go_ret;exact⟨rfl,rfl⟩
 ·subst h;have e:Ec (x-x)=0:=by unfold Ec;simp
  rw[e];have h2:¬x>x:=by omega
  go_enter func54,ntmps54;go_wp2;go_ret;exact⟨rfl,rfl⟩
 ·have e:Ec (x-y)=1:=by unfold Ec;rw[if_neg (by omega),if_pos (by omega)]
  rw[e];have h2:¬x<y:=by omega
  go_enter func54,ntmps54;go_wp2;go_ret;exact⟨rfl,rfl⟩
theorem XU (x y:S5)(V:ag):
  au 53 #[.agg (s5A x),.agg (s5A y)] V fun e w'=>e=.returned (aa (Ec (x.lv-y.lv)))/\∃q os,w'=grow (V.drewN q) os:=by
 have CI:=I9 x.lv y.lv;go_enter func53,ntmps53;go_wp2_with(go_at_call 54;refine(CI _).mono ?_;rintro e w1 ⟨rfl,rfl⟩);go_ret;refine⟨rfl,0,#[.cells (s5A x) 134,.cells (s5A y) 134],?_⟩;rw[alloc_eq_grow,alloc_eq_grow,grow_grow];rfl
section
variable {w0:ag}{blk off:Nat}{d0:Array S5}
theorem a1F (wq:ag)(x y:S5):∀n os,au 53 #[.agg (s5A x),.agg (s5A y)] (grow (wq.drewN n) os) fun e w'=>e=.returned (aa (Ec (x.lv-y.lv)))/\∃q os',w'=grow ((grow (wq.drewN n) os).drewN q) os':=fun _ _=>XU x y _
structure G5 (wq:ag)(b o:Nat)(x:S5):Prop where
 c0:∀n os,(grow (wq.drewN n) os).cell? (ak b o)=some (aa x.nd)
 c1:∀n os,(grow (wq.drewN n) os).cell? (ak b (o+1))=some (.slice x.o x.len x.cap)
 c2:∀n os,(grow (wq.drewN n) os).cell? (ak b (o+2))=some (.string x.fill)
 c3:∀n os,(grow (wq.drewN n) os).cell? (ak b (o+3))=some (.string x.rule)
 c4:∀n os,(grow (wq.drewN n) os).cell? (ak b (o+4))=some (aa x.lv)
theorem C5.all {W:ag}{b o:Nat}{x:S5}(h:C5 W b o x)(hb:b<W.heap.size):G5 W b o x:=
 ⟨cell_grown hb h.c0,cell_grown hb h.c1,cell_grown hb h.c2,cell_grown hb h.c3,cell_grown hb h.c4⟩
theorem oO.grown {d:Array S5}{W:ag}(h:oO w0 blk off d W)(n:Nat)(os:Array Obj):oO w0 blk off d (grow (W.drewN n) os):=by
 obtain⟨m,os',rfl⟩:=h;exact⟨m+n,os'++os,sortWorldK_grown_c uG 5 w0 blk off m n d os' os⟩
theorem sM {x y:Int}(h:x<y):Ec (x-y)<0:=by unfold Ec;rw[if_pos (by omega)];decide
theorem sN {x y:Int}(h:¬x<y):¬Ec (x-y)<0:=by unfold Ec;rw[if_neg (by omega)];split<;>decide
def SFr (w0:ag)(blk off:Nat)(d:Array S5)(lo hi:Nat)(P Q:Nat->Prop)(x y:ah)(wr:ag):Prop:=∃(i j:Nat),x=aa i/\y=aa j/\lo<=i/\i<=j/\j<=hi/\(∀k,lo<=k->k<i->P k)/\(∀k,j<=k->k<hi->Q k)/\oO w0 blk off d wr
def SFk (w0:ag)(blk off:Nat)(d:Array S5)(a e:Nat)(x:ah)(wr:ag):Prop:=∃(k:Nat) (f:Array S5),x=aa k/\a<=k/\k<=e/\ShL d f a k/\oO w0 blk off f wr
def SyR (w0:ag)(blk off:Nat)(d:Array S5)(a b:Nat)(e:Ending)(w':ag):Prop:=e=.returned (.tuple #[])/\∃d',rE S5.lv S5.tag d d' a b/\oO w0 blk off d' w'
theorem U9 (hblk:blk<w0.heap.size)(h0:HoldsK uG 5 w0 blk off d0)(hz:d0.size<=1000){d:Array S5}(hs:d.size=d0.size){W:ag}(hW:oO w0 blk off d W)(cap a m b:Nat)(hm:m=a+1)(hp:qI S5.lv S5.tag d a m b):
  au 149 #[.slice (some ⟨blk,off,none⟩) d0.size cap,aa a,aa m,aa b,pR] W fun e w'=>SyR w0 blk off d a b e w':=by
 have mixed:=I8;have HW:=aj hW;have H0:=aj h0;have HP:=aj hp;have HM:=aj hm;have q1:=hp.mb;have q2:=hp.sz;clear hW h0;have e1:IntKind.i64.wrap ((m:Int)-(a:Int))=1:=by rw[IntKind.wrap_i64];omega
 have q3:=hp.am;clear hm hp;go_enter func149,ntmps149;go_upto_region 3 with fail
 go_loopw [10,11] (fun x y wr=>SFr w0 blk off d m b (fun k=>d[k]!.lv<d[a]!.lv) (fun k=>d[a]!.lv<=d[k]!.lv) x y wr) (fun x y _=>(intOf y).toNat-(intOf x).toNat)
 case atStart=>exact⟨m,b,rfl,rfl,Nat.le_refl _,by omega,Nat.le_refl _,fun k h1 h2=>by omega,fun k h1 h2=>by omega,HW.out⟩
 case round=>
  obtain⟨i,j,rfl,rfl,hi1,hij,hjb,hlo,hhi,hE⟩:=hrel;have HLO:=aj hlo;have HHI:=aj hhi;have HE:=aj hE;clear hlo hhi;by_cases hlt:i<j
  ·have hltz:(i:Int)<(j:Int):=by omega
   obtain⟨h,hh⟩:∃h,(i+j)/2=h:=⟨_,rfl⟩;have hhz:((i:Int)+(j:Int))/2=(h:Int):=by omega
   go_upto_region 5 with fail;have ug:i<=h/\h<j:=by omega
   clear hhz hh;have hbr:blk<wr.heap.size:=SWK.lt hE hblk;obtain⟨c0,c1,c2,c3,c4⟩:=(l8 hE hblk H0.out hs (i:=h) (by omega)).all hbr;obtain⟨b0,b1,b2,b3,b4⟩:=(l8 hE hblk H0.out hs (i:=a) (by omega)).all hbr;have jh:(h:Int)<(d0.size:Int):=by omega
   have ja:(a:Int)<(d0.size:Int):=by omega
   obtain⟨xh,hxh⟩:∃x,d[h]! =x:=⟨_,rfl⟩;obtain⟨xa,hxa⟩:∃x,d[a]! =x:=⟨_,rfl⟩;rw[hxh] at c0 c1 c2 c3 c4;rw[hxa] at b0 b1 b2 b3 b4;have hcg:=a1F wr xh xa;have HX:Hid (d[h]! =xh/\d[a]! =xa):=⟨hxh,hxa⟩;clear hE hxh hxa;by_cases hk:xh.lv<xa.lv
   ·have hsg:=sM hk;have HK:Hid (d[h]!.lv<d[a]!.lv):=by rw[HX.out.1,HX.out.2];exact hk
    generalize Ec (xh.lv-xa.lv)=sv at hsg hcg
    go_quiet_grown (first|(go_at_call 53;exact Calls.grown_of (hcg _ _)))
    clear c0 c1 c2 c3 c4 b0 b1 b2 b3 b4 hcg hk;go_wp2_with fail
    go_roundw
    case rel=>
     refine⟨h+1,j,by go_num,rfl,by omega,by omega,hjb,fun k k1 k2=>?_,HHI.out,HE.out.grown nq osq⟩;by_cases h0:k=h
     ·rw[h0];exact HK.out
     ·have:=(HP.out.r k h (by omega) (by omega) (by omega)).le;have:=HK.out;show d[k]!.lv<d[a]!.lv;omega
    case measure=>simp[intOf];omega
   ·have hsg:=sN hk;have HK:Hid (d[a]!.lv<=d[h]!.lv):=by rw[HX.out.1,HX.out.2];exact Int.not_lt.1 hk
    generalize Ec (xh.lv-xa.lv)=sv at hsg hcg
    go_quiet_grown (first|(go_at_call 53;exact Calls.grown_of (hcg _ _)))
    clear c0 c1 c2 c3 c4 b0 b1 b2 b3 b4 hcg hk;go_wp2_with fail
    go_roundw
    case rel=>
     refine⟨i,h,rfl,rfl,hi1,by omega,by omega,HLO.out,fun k k1 k2=>?_,HE.out.grown nq osq⟩;by_cases h0:k=h
     ·rw[h0];exact HK.out
     ·have:=(HP.out.r h k (by omega) (by omega) (by omega)).le;have:=HK.out;show d[a]!.lv<=d[k]!.lv;omega
    case measure=>simp[intOf];omega
  ·have hltz:¬(i:Int)<(j:Int):=by omega
   obtain rfl:i=j:=by omega
   clear hE hltz hlt;go_upto_region 9 with fail
   go_loopw [13] (fun x wr=>SFk w0 blk off d a (i-1) x wr) (fun x _=>i-(intOf x).toNat)
   case atStart=>exact⟨a,d,rfl,Nat.le_refl _,by omega,ShL.zero _ _,HE.out⟩
   case round=>
    obtain⟨k,f,rfl,hk1,hk2,hS,hE⟩:=hrel;have HS:=aj hS;have HF:=aj hE;have hzf:f.size=d.size:=hS.sz;by_cases hki:k<i-1
    ·have hkz:(k:Int)<(i:Int)-1:=by omega
     obtain⟨a0,a1,a2,a3,a4,fa0,fa1,fa2,fa3,fa4⟩:=l8 hE hblk H0.out (hzf.trans hs) (i:=k) (by omega);obtain⟨b0,b1,b2,b3,b4,fb0,fb1,fb2,fb3,fb4⟩:=l8 hE hblk H0.out (hzf.trans hs) (i:=k+1) (by omega);have EQ:Hid _:=Ab hE hblk (i:=k) (j:=k+1) (by omega) (by omega);have ja:(k:Int)<(d0.size:Int):=by omega
     have jb:(k:Int)+1<(d0.size:Int):=by omega
     obtain⟨xa,hxa⟩:∃x,f[k]! =x:=⟨_,rfl⟩;obtain⟨xb,hxb⟩:∃x,f[k+1]! =x:=⟨_,rfl⟩;rw[hxa] at a0 a1 a2 a3 a4 EQ;rw[hxb] at b0 b1 b2 b3 b4 EQ;clear hS hE hxa hxb;go_wp2_with fail
     go_big_region
     all_goals go_wp2
     go_roundw
     case rel=>
      refine⟨k+1,swp f k (k+1),by go_num,by omega,by omega,HS.out.step hk1 (by omega),?_⟩;exact EQ.out
     case measure=>simp[intOf];omega
    ·have hkz:¬(k:Int)<(i:Int)-1:=by omega
     obtain rfl:k=i-1:=by omega
     clear hS hE;go_wp2;refine bodyPost_ret (v:=.tuple #[]) (by simp[results,results149,go_sem]) rfl ⟨rfl,f,?_,HF.out⟩;obtain rfl:=HM.out;exact Lu HP.out hi1 hjb HLO.out (fun k k1 k2=>Int.not_lt.2 (HHI.out k k1 k2)) HS.out
end
section
variable {w0:ag}{blk off:Nat}{d0:Array S5}
def SFd (w0:ag)(blk off:Nat)(d:Array S5)(i m:Nat)(x:ah)(wr:ag):Prop:=∃(k:Nat) (f:Array S5),x=aa k/\i<=k/\k<=m/\ShD d f k m/\oO w0 blk off f wr
theorem XV (hblk:blk<w0.heap.size)(h0:HoldsK uG 5 w0 blk off d0)(hz:d0.size<=1000){d:Array S5}(hs:d.size=d0.size){W:ag}(hW:oO w0 blk off d W)(cap a m b:Nat)(hm1:m≠a+1)(hm:b=m+1)(hp:qI S5.lv S5.tag d a m b):
  au 149 #[.slice (some ⟨blk,off,none⟩) d0.size cap,aa a,aa m,aa b,pR] W fun e w'=>SyR w0 blk off d a b e w':=by
 have mixed:=I8;have HW:=aj hW;have H0:=aj h0;have HP:=aj hp;have HM:=aj hm;have q1:=hp.mb;have q2:=hp.sz;clear hW h0;have q3:=hp.am;obtain⟨L,hL⟩:∃L,m-a=L:=⟨_,rfl⟩;have e1:IntKind.i64.wrap ((m:Int)-(a:Int))=(L:Int):=by rw[IntKind.wrap_i64];omega
 have e2:((L:Int)==1)=false:=by simp;omega
 have e3:IntKind.i64.wrap ((b:Int)-(m:Int))=1:=by rw[IntKind.wrap_i64];omega
 clear hm hp hL hm1;go_enter func149,ntmps149;go_upto_region 15 with fail
 go_loopw [14,15] (fun x y wr=>SFr w0 blk off d a m (fun k=>d[k]!.lv<=d[m]!.lv) (fun k=>d[m]!.lv<d[k]!.lv) x y wr) (fun x y _=>(intOf y).toNat-(intOf x).toNat)
 case atStart=>exact⟨a,m,rfl,rfl,Nat.le_refl _,by omega,Nat.le_refl _,fun k h1 h2=>by omega,fun k h1 h2=>by omega,HW.out⟩
 case round=>
  obtain⟨i,j,rfl,rfl,hi1,hij,hjb,hlo,hhi,hE⟩:=hrel;have HLO:=aj hlo;have HHI:=aj hhi;have HE:=aj hE;clear hlo hhi;by_cases hlt:i<j
  ·have hltz:(i:Int)<(j:Int):=by omega
   obtain⟨h,hh⟩:∃h,(i+j)/2=h:=⟨_,rfl⟩;have hhz:((i:Int)+(j:Int))/2=(h:Int):=by omega
   go_upto_region 17 with fail;have ug:i<=h/\h<j:=by omega
   clear hhz hh;have hbr:blk<wr.heap.size:=SWK.lt hE hblk;obtain⟨c0,c1,c2,c3,c4⟩:=(l8 hE hblk H0.out hs (i:=h) (by omega)).all hbr;obtain⟨b0,b1,b2,b3,b4⟩:=(l8 hE hblk H0.out hs (i:=m) (by omega)).all hbr;have jh:(h:Int)<(d0.size:Int):=by omega
   have ja:(m:Int)<(d0.size:Int):=by omega
   obtain⟨xh,hxh⟩:∃x,d[h]! =x:=⟨_,rfl⟩;obtain⟨xa,hxa⟩:∃x,d[m]! =x:=⟨_,rfl⟩;rw[hxh] at c0 c1 c2 c3 c4;rw[hxa] at b0 b1 b2 b3 b4;have hcg:=a1F wr xa xh;have HX:Hid (d[h]! =xh/\d[m]! =xa):=⟨hxh,hxa⟩;clear hE hxh hxa;by_cases hk:xa.lv<xh.lv
   ·have hsg:=sM hk;have HK:Hid (d[m]!.lv<d[h]!.lv):=by rw[HX.out.1,HX.out.2];exact hk
    generalize Ec (xa.lv-xh.lv)=sv at hsg hcg
    go_quiet_grown (first|(go_at_call 53;exact Calls.grown_of (hcg _ _)))
    clear c0 c1 c2 c3 c4 b0 b1 b2 b3 b4 hcg hk;go_wp2_with fail
    go_roundw
    case rel=>
     refine⟨i,h,rfl,rfl,hi1,by omega,by omega,HLO.out,fun k k1 k2=>?_,HE.out.grown nq osq⟩;by_cases h0:k=h
     ·rw[h0];exact HK.out
     ·have:=(HP.out.l h k (by omega) (by omega) (by omega)).le;have:=HK.out;show d[m]!.lv<d[k]!.lv;omega
    case measure=>simp[intOf];omega
   ·have hsg:=sN hk;have HK:Hid (d[h]!.lv<=d[m]!.lv):=by rw[HX.out.1,HX.out.2];exact Int.not_lt.1 hk
    generalize Ec (xa.lv-xh.lv)=sv at hsg hcg
    go_quiet_grown (first|(go_at_call 53;exact Calls.grown_of (hcg _ _)))
    clear c0 c1 c2 c3 c4 b0 b1 b2 b3 b4 hcg hk;go_wp2_with fail
    go_roundw
    case rel=>
     refine⟨h+1,j,by go_num,rfl,by omega,by omega,hjb,fun k k1 k2=>?_,HHI.out,HE.out.grown nq osq⟩;by_cases h0:k=h
     ·rw[h0];exact HK.out
     ·have:=(HP.out.l k h (by omega) (by omega) (by omega)).le;have:=HK.out;show d[k]!.lv<=d[m]!.lv;omega
    case measure=>simp[intOf];omega
  ·have hltz:¬(i:Int)<(j:Int):=by omega
   obtain rfl:i=j:=by omega
   clear hE hltz hlt;go_upto_region 21 with fail
   go_loopw [17] (fun x wr=>SFd w0 blk off d i m x wr) (fun x _=>(intOf x).toNat)
   case atStart=>exact⟨m,d,rfl,by omega,Nat.le_refl _,ShD.zero _ _,HE.out⟩
   case round=>
    obtain⟨k,f,rfl,hk1,hk2,hS,hE⟩:=hrel;have HS:=aj hS;have HF:=aj hE;have hzf:f.size=d.size:=hS.sz;by_cases hki:i<k
    ·have hkz:(i:Int)<(k:Int):=by omega
     obtain⟨p,hp⟩:∃p,k=p+1:=⟨k-1,by omega⟩;have ep:IntKind.i64.wrap ((k:Int)-1)=(p:Int):=by rw[IntKind.wrap_i64];omega
     obtain⟨a0,a1,a2,a3,a4,fa0,fa1,fa2,fa3,fa4⟩:=l8 hE hblk H0.out (hzf.trans hs) (i:=k) (by omega);obtain⟨b0,b1,b2,b3,b4,fb0,fb1,fb2,fb3,fb4⟩:=l8 hE hblk H0.out (hzf.trans hs) (i:=p) (by omega);have EQ:Hid _:=Ab hE hblk (i:=k) (j:=p) (by omega) (by omega);have ja:(k:Int)<(d0.size:Int):=by omega
     have jb:(p:Int)<(d0.size:Int):=by omega
     obtain⟨xa,hxa⟩:∃x,f[k]! =x:=⟨_,rfl⟩;obtain⟨xb,hxb⟩:∃x,f[p]! =x:=⟨_,rfl⟩;rw[hxa] at a0 a1 a2 a3 a4 EQ;rw[hxb] at b0 b1 b2 b3 b4 EQ;have Ua:=aj hp;have hpk:p<k:=by omega
     clear hS hE hxa hxb hp;go_wp2_with fail
     go_big_region
     all_goals go_wp2
     go_roundw
     case rel=>
      refine⟨p,swp f k p,by first|rfl|go_num,by have:=Ua.out;omega,by have:=Ua.out;omega,?_,?_⟩
      ·have:=HS.out;rw[Ua.out] at this⊢;exact this.step (by have:=Ua.out;omega) (by omega)
      ·exact EQ.out
     case measure=>
      have:=Ua.out;simp[intOf];omega
    ·have hkz:¬(i:Int)<(k:Int):=by omega
     obtain rfl:k=i:=by omega
     clear hS hE;go_wp2;refine bodyPost_ret (v:=.tuple #[]) (by simp[results,results149,go_sem]) rfl ⟨rfl,f,?_,HF.out⟩;obtain rfl:=HM.out;exact Ol HP.out hi1 hjb (fun k k1 k2=>Int.not_lt.2 (HLO.out k k1 k2)) HHI.out HS.out
end
section
variable {w0:ag}{blk off:Nat}{d0:Array S5}
def SMr (w0:ag)(blk off:Nat)(d:Array S5)(a m b n s0 r0:Nat)(x y:ah)(wr:ag):Prop:=∃(s r:Nat),x=aa s/\y=aa r/\zV S5.lv d a m b n s0 r0 s r/\oO w0 blk off d wr
theorem Co.one {d:Array S5}{a s mid e b:Nat}(h:Co S5.lv S5.tag d a s mid e b)(hn:¬(a<s/\s<mid)):rE S5.lv S5.tag d d a mid:=⟨uF.refl _ _ _,h.h1' hn⟩
theorem Co.two {d f:Array S5}{a s mid e b:Nat}(h:Co S5.lv S5.tag d a s mid e b)(hp:rE S5.lv S5.tag d f a mid)(hn:¬(mid<e/\e<b)):rE S5.lv S5.tag f f mid b:=⟨uF.refl _ _ _,hp.mv.srt (h.h2' hn) (.inr ai)⟩
theorem Co.pre {d f:Array S5}{a s mid e b:Nat}(h:Co S5.lv S5.tag d a s mid e b)(hp:rE S5.lv S5.tag d f a mid)(hn:mid<e/\e<b):qI S5.lv S5.tag f mid e b:=(h.h2 hn).carry hp.mv (.inl ai)
def QX (w0:ag)(blk off:Nat)(d0:Array S5)(cap:Nat)(len:Nat):Prop:=∀(e:Array S5),e.size=d0.size->∀(V:ag),oO w0 blk off e V->∀(a m b:Nat),b-a<len->qI S5.lv S5.tag e a m b->
 au 149 #[.slice (some ⟨blk,off,none⟩) d0.size cap,aa a,aa m,aa b,pR] V fun e' w'=>SyR w0 blk off e a b e' w'
theorem QY (hblk:blk<w0.heap.size)(h0:HoldsK uG 5 w0 blk off d0)(hz:d0.size<=1000){d:Array S5}(hs:d.size=d0.size){W:ag}(hW:oO w0 blk off d W)(cap a m b mid n s0 r0:Nat)(_hm1:m≠a+1)(_hm2:b≠m+1)(hp:qI S5.lv S5.tag d a m b)(hmid:(a+b)/2=mid)(hn:mid+m=n)(hk:(mid<m/\n-b=s0/\mid=r0)\/(m<=mid/\a=s0/\m=r0))(hIH:QX w0 blk off d0 cap (b-a)):
  au 149 #[.slice (some ⟨blk,off,none⟩) d0.size cap,aa a,aa m,aa b,pR] W fun e w'=>SyR w0 blk off d a b e w':=by
 have mixed:=I8;have SR:=fun(e:Array S5) (he:e.size=d0.size) (V:ag) (hV:oO w0 blk off e V) (x y z:Nat) (h1:x<y) (h2:y<z) (h3:z<=e.size)=>Om hblk h0 hz he hV cap x y z h1 h2 h3 pR;have HR:Hid _:=SR;have HW:=aj hW;have H0:=aj h0;have HP:=aj hp;have IH:=aj hIH;have q1:=hp.mb;have q2:=hp.sz;have q3:=hp.am;have cw:(n-m<m/\s0=n-b/\r0=n-m)\/(m<=n-m/\s0=a/\r0=m):=by omega
 have HC0:Hid (zV S5.lv d a m b n s0 r0 s0 r0):=⟨cw,by omega,Nat.le_refl _,by omega,Nat.le_refl _,fun c h1 h2=>by omega,fun c h1 h2=>by omega⟩;obtain⟨L,hL⟩:∃L,m-a=L:=⟨_,rfl⟩;obtain⟨R,hR⟩:∃R,b-m=R:=⟨_,rfl⟩;obtain⟨pp,Ub⟩:∃pp,n-1=pp:=⟨_,rfl⟩;have e1:IntKind.i64.wrap ((m:Int)-(a:Int))=(L:Int):=by rw[IntKind.wrap_i64];omega
 have e2:((L:Int)==1)=false:=by simp;omega
 have e3:IntKind.i64.wrap ((b:Int)-(m:Int))=(R:Int):=by rw[IntKind.wrap_i64];omega
 have e4:((R:Int)==1)=false:=by simp;omega
 have e5:((a:Int)+(b:Int))/2=(mid:Int):=by omega
 have e6:(mid:Int)+(m:Int)=(n:Int):=by omega
 have e7:IntKind.i64.wrap ((n:Int)-1)=(pp:Int):=by rw[IntKind.wrap_i64];omega
 have b1:a<mid/\mid<b/\mid<n/\m<n/\n<=2*b:=by omega
 have HN:Hid (mid+m=n/\n-1=pp/\(a+b)/2=mid):=⟨hn,Ub,hmid⟩;have HCW:=aj cw;rcases hk with⟨hw,hs0,hr0⟩|⟨hw,hs0,hr0⟩
 all_goals first|(have e9:(mid:Int)<(m:Int):=(by omega);have e8:IntKind.i64.wrap ((n:Int)-(b:Int))=(s0:Int):=(by rw[IntKind.wrap_i64];omega))|have e9:¬(mid:Int)<(m:Int):=by omega
 all_goals
  have HS:Hid _:=hs0;have HRR:Hid _:=hr0;clear SR hW h0 hp hIH hL hR Ub hn hmid cw _hm1 _hm2 hs0 hr0 hw;go_enter func149,ntmps149;go_upto_region 33 with fail;clear e5 e6
  go_loopw [20,21] (fun x y wr=>SMr w0 blk off d a m b n s0 r0 x y wr) (fun x y _=>(intOf y).toNat-(intOf x).toNat)
  case atStart=>exact⟨s0,r0,by first|rfl|rw[<- HS.out],by rw[<- HRR.out],HC0.out,HW.out⟩
  case round=>
   obtain⟨s,r,rfl,rfl,hC,hE⟩:=hrel;have HC:=aj hC;have HE:=aj hE;obtain⟨hn1,hn2,hn3⟩:=HN.out;have hcw:=HCW.out;have hs1:=hC.s1;have hs2:=hC.s2;have hs3:=hC.s3;by_cases hlt:s<r
   ·have hltz:(s:Int)<(r:Int):=by omega
    obtain⟨c,hc⟩:∃c,(s+r)/2=c:=⟨_,rfl⟩;obtain⟨t,ht⟩:∃t,n-1-c=t:=⟨_,rfl⟩;have hcz:((s:Int)+(r:Int))/2=(c:Int):=by omega
    have htz:IntKind.i64.wrap ((pp:Int)-(c:Int))=(t:Int):=by rw[IntKind.wrap_i64];omega
    have hc1:s<=c/\c<r/\c<d0.size/\t<d0.size:=by omega
    have HTC:=aj ht;clear hn1 hn2 hn3 hcw hs1 hs2 hs3 hc ht hC;go_upto_region 35 with fail;clear hcz;have hbr:blk<wr.heap.size:=SWK.lt hE hblk;obtain⟨c0,c1,c2,c3,c4⟩:=(l8 hE hblk H0.out hs (i:=t) (by omega)).all hbr;obtain⟨b0,b1,b2,b3,b4⟩:=(l8 hE hblk H0.out hs (i:=c) (by omega)).all hbr;have jh:(t:Int)<(d0.size:Int):=by omega
    have ja:(c:Int)<(d0.size:Int):=by omega
    obtain⟨xt,hxt⟩:∃x,d[t]! =x:=⟨_,rfl⟩;obtain⟨xc,hxc⟩:∃x,d[c]! =x:=⟨_,rfl⟩;rw[hxt] at c0 c1 c2 c3 c4;rw[hxc] at b0 b1 b2 b3 b4;have hcg:=a1F wr xt xc;have HX:Hid (d[n-1-c]! =xt/\d[c]! =xc):=⟨by rw[HTC.out];exact hxt,hxc⟩;clear hE hxt hxc;by_cases hk:xt.lv<xc.lv
    ·have hsg:=sM hk;have HD:Hid (zV S5.lv d a m b n s0 r0 s c):=HC.out.down HP.out (by omega) (by omega) (by rw[HX.out.1,HX.out.2];exact hk);generalize Ec (xt.lv-xc.lv)=sv at hsg hcg
     go_quiet_grown (first|(go_at_call 53;exact Calls.grown_of (hcg _ _)))
     clear c0 c1 c2 c3 c4 b0 b1 b2 b3 b4 hcg hk;go_wp2_with fail
     go_roundw
     case rel=>exact⟨s,c,rfl,rfl,HD.out,HE.out.grown nq osq⟩
     case measure=>simp[intOf];omega
    ·have hsg:=sN hk;have HD:Hid (zV S5.lv d a m b n s0 r0 (c+1) r):=HC.out.up HP.out (by omega) (by omega) (by rw[HX.out.1,HX.out.2];exact hk);generalize Ec (xt.lv-xc.lv)=sv at hsg hcg
     go_quiet_grown (first|(go_at_call 53;exact Calls.grown_of (hcg _ _)))
     clear c0 c1 c2 c3 c4 b0 b1 b2 b3 b4 hcg hk;go_wp2_with fail
     go_roundw
     case rel=>exact⟨c+1,r,by go_num,rfl,HD.out,HE.out.grown nq osq⟩
     case measure=>simp[intOf];omega
   ·have hltz:¬(s:Int)<(r:Int):=by omega
    obtain rfl:s=r:=by omega
    obtain⟨e,he⟩:∃e,n-s=e:=⟨_,rfl⟩;have hez:IntKind.i64.wrap ((n:Int)-(s:Int))=(e:Int):=by rw[IntKind.wrap_i64];omega
    have HT:Hid (∀f,Eb d f s m e->Co S5.lv S5.tag f a s mid e b):=fun f hf=>by
     rw[<- he] at hf⊢;exact HC.out.turn HP.out hf hn3.symm
    have hb0:a<=s/\s<=m/\m<=e/\e<=b/\s<=mid/\mid<=e:=by omega
    have hb1:s<m↔mid<e:=by omega
    have hb2:s<mid↔m<e:=by omega
    have HB:Hid ((s<m↔mid<e)/\(s<mid↔m<e)):=⟨hb1,hb2⟩;clear hn1 hn2 hn3 hcw hs1 hs2 hs3 he hC hE hlt hb1 hb2;go_upto_region 39 with fail
    go_cut [185] from 178 to 219 (fun v wx=>v=.bool (decide (s<m/\m<e))/\wr=wx)
    case first=>
     by_cases g1:(s:Int)<(m:Int)<;>by_cases g2:(m:Int)<(e:Int)
     all_goals
      go_wp2_with fail
      go_meet
      exact⟨congrArg _ (by first|exact(decide_eq_true (by omega)).symm|exact(decide_eq_false (by omega)).symm),rfl⟩
    case rest=>
     obtain⟨rfl,rfl⟩:=hcut
     go_upto_if 185 with fail
     go_cut [] from 178 to 219 (fun wx=>∃d1,Eb d d1 s m e/\oO w0 blk off d1 wx)
     case first=>
      by_cases g:s<m/\m<e
      ·rw[decide_eq_true g];have RT:=HR.out d hs wr HE.out s m e (by omega) (by omega) (by omega);go_wp2_with(go_at_call 204;refine RT.mono ?_;rintro e w1 ⟨rfl,d1,r1,k1⟩)
       go_meet
       exact⟨d1,r1,k1⟩
      ·rw[decide_eq_false g];go_wp2_with fail
       go_meet
       exact⟨d,Eb.none (by omega) (by omega) (by omega),HE.out⟩
     case rest=>
      obtain⟨d1,r1,k1⟩:=hcut
      rename ag=>w1
      have HT1:Hid (Co S5.lv S5.tag d1 a s mid e b):=HT.out d1 r1;have z1d:d1.size=d0.size:=r1.sz.trans hs;have HR1:=aj r1;clear r1;go_upto_region 41 with fail
      go_cut [199] from 178 to 219 (fun v wx=>v=.bool (decide (a<s/\s<mid))/\w1=wx)
      case first=>
       by_cases g1:(a:Int)<(s:Int)<;>by_cases g2:(s:Int)<(mid:Int)
       all_goals
        go_wp2_with fail
        go_meet
        exact⟨congrArg _ (by first|exact(decide_eq_true (by omega)).symm|exact(decide_eq_false (by omega)).symm),rfl⟩
      case rest=>
       obtain⟨rfl,rfl⟩:=hcut
       go_upto_if 199 with fail
       go_cut [] from 178 to 219 (fun wx=>∃d2,rE S5.lv S5.tag d1 d2 a mid/\oO w0 blk off d2 wx)
       case first=>
        by_cases g:a<s/\s<mid
        ·rw[decide_eq_true g];have C1:=IH.out d1 z1d w1 k1 a s mid (by omega) (HT1.out.h1 g);go_wp2_with(go_at_call 149;refine C1.mono ?_;rintro e w2 ⟨rfl,d2,p2,k2⟩)
         go_meet
         exact⟨d2,p2,k2⟩
        ·rw[decide_eq_false g];go_wp2_with fail
         go_meet
         exact⟨d1,HT1.out.one g,k1⟩
       case rest=>
        obtain⟨d2,p2,k2⟩:=hcut
        rename ag=>w2
        have HP2:=aj p2;clear p2;go_upto_region 43 with fail
        go_cut [213] from 178 to 219 (fun v wx=>v=.bool (decide (mid<e/\e<b))/\w2=wx)
        case first=>
         by_cases g1:(mid:Int)<(e:Int)<;>by_cases g2:(e:Int)<(b:Int)
         all_goals
          go_wp2_with fail
          go_meet
          exact⟨congrArg _ (by first|exact(decide_eq_true (by omega)).symm|exact(decide_eq_false (by omega)).symm),rfl⟩
        case rest=>
         obtain⟨rfl,rfl⟩:=hcut
         go_upto_if 213 with fail
         by_cases g:mid<e/\e<b
         ·rw[decide_eq_true g];have C2:=IH.out d2 (HP2.out.mv.sz.trans z1d) w2 k2 mid e b (by omega) (HT1.out.pre HP2.out g);go_wp2_with(go_at_call 149;refine C2.mono ?_;rintro e w3 ⟨rfl,d3,p3,k3⟩)
          all_goals go_end0
          all_goals have pf:=HT1.out.done (by omega) (by omega) HP2.out p3
          all_goals exact⟨rfl,d3,⟨((HR1.out.mv (by omega) (by omega)).mono (by omega) (by omega)).trans pf.mv,pf.s⟩,k3⟩
         ·rw[decide_eq_false g];have HP3:Hid _:=HT1.out.two HP2.out g;go_wp2_with fail
          all_goals go_end0
          all_goals have pf:=HT1.out.done (by omega) (by omega) HP2.out HP3.out
          all_goals exact⟨rfl,d2,⟨((HR1.out.mv (by omega) (by omega)).mono (by omega) (by omega)).trans pf.mv,pf.s⟩,k2⟩
end
section
variable {w0:ag}{blk off:Nat}{d0:Array S5}
theorem wP (hblk:blk<w0.heap.size)(h0:HoldsK uG 5 w0 blk off d0)(hz:d0.size<=1000)(cap:Nat):∀len,QX w0 blk off d0 cap len
 |0=>fun _ _ _ _ _ _ _ h=>absurd h (Nat.not_lt_zero _)
 |len+1=>fun e he V hV a m b hl hp=>by
  have IH:QX w0 blk off d0 cap (b-a):=fun e' he' V' hV' a' m' b' h' hp'=>wP hblk h0 hz cap len e' he' V' hV' a' m' b' (by omega) hp';by_cases h1:m=a+1
  ·exact U9 hblk h0 hz he hV cap a m b h1 hp
  ·by_cases h2:b=m+1
   ·exact XV hblk h0 hz he hV cap a m b h1 h2 hp
   ·by_cases h3:(a+b)/2<m
    ·exact QY hblk h0 hz he hV cap a m b _ _ _ _ h1 h2 hp rfl rfl (.inl ⟨h3,rfl,rfl⟩) IH
    ·exact QY hblk h0 hz he hV cap a m b _ _ _ _ h1 h2 hp rfl rfl (.inr ⟨by omega,rfl,rfl⟩) IH
def IOr (w0:ag)(blk off:Nat)(d:Array S5)(a b:Nat)(x:ah)(wr:ag):Prop:=∃(i:Nat) (e:Array S5),x=aa i/\a<i/\i<=b/\uF d e a i/\Lt S5.lv S5.tag e a i/\oO w0 blk off e wr
def IIr (w0:ag)(blk off:Nat)(e:Array S5)(a i:Nat)(y:ah)(wr:ag):Prop:=∃(j:Nat) (f:Array S5),y=aa j/\a<=j/\j<=i/\Oj S5.lv S5.tag f a j i/\uF e f a (i+1)/\oO w0 blk off f wr
theorem Ex (hblk:blk<w0.heap.size)(h0:HoldsK uG 5 w0 blk off d0)(hz:d0.size<=1000){d:Array S5}(hs:d.size=d0.size){W:ag}(hW:oO w0 blk off d W)(cap a b:Nat)(hab:a<b)(hb:b<=d.size)(ht:∀u v,a<=u->u<v->v<b->d[u]!.tag<d[v]!.tag):
  au 148 #[.slice (some ⟨blk,off,none⟩) d0.size cap,aa a,aa b,pR] W fun e w'=>SyR w0 blk off d a b e w':=by
 have mixed:=I8;have HW:=aj hW;have H0:=aj h0;have HTG:=aj ht;clear hW h0 ht;go_enter func148,ntmps148;go_upto_region 1 with fail
 go_loopw [8] (fun x wr=>IOr w0 blk off d a b x wr) (fun x _=>b-(intOf x).toNat)
 case atStart=>exact⟨a+1,d,by go_num,by omega,by omega,uF.refl _ _ _,fun u v h1 h2 h3=>by omega,HW.out⟩
 case round=>
  obtain⟨i,e,rfl,hai,hib,hM,hS,hE⟩:=hrel;have HM:=aj hM;have HS:=aj hS;have HE:=aj hE;have XT:e.size=d.size:=hM.sz;clear hM hS hE;by_cases hlt:i<b
  ·have hltz:(i:Int)<(b:Int):=by omega
   have HI0:Hid (Oj S5.lv S5.tag e a i i):=by
    refine⟨fun u v h1 h2 h3 h4 h5=>HS.out u v h1 h2 (by omega),fun v h1 h2=>by omega,fun u h1 h2=>?_⟩;obtain⟨k,k1,k2,k3⟩:=(HM.out.same _).1 ⟨u,h1,h2,rfl⟩;rw[<- k3,HM.out.out i (by omega)];exact HTG.out k i k1 k2 hlt
   go_upto_region 4 with fail
   go_loopw [9] (fun y wr=>IIr w0 blk off e a i y wr) (fun y _=>(intOf y).toNat)
   case atStart=>exact⟨i,e,rfl,by omega,Nat.le_refl _,HI0.out,uF.refl _ _ _,HE.out⟩
   case round=>
    obtain⟨j,f,rfl,haj,hji,hI,hV,hF⟩:=hrel;have HI:=aj hI;have HV:=aj hV;have HF:=aj hF;have hzf:f.size=d.size:=hV.sz.trans XT;have OUT:Hid (∀V,oO w0 blk off f V->(j=a\/a<j/\f[j-1]!.lv<=f[j]!.lv)->IOr w0 blk off d a b (aa (i+1:Nat)) V):=fun V Jd hst=>
     ⟨i+1,f,rfl,by omega,by omega,(HM.out.mono ai (by omega)).trans HV.out,HI.out.stop (hst.imp id (fun h=>⟨h.1,Int.not_lt.2 h.2⟩)),Jd⟩
    clear hI hV;by_cases hja:a<j
    ·have hjz:(a:Int)<(j:Int):=by omega
     obtain⟨p,hp⟩:∃p,j=p+1:=⟨j-1,by omega⟩;have ep:IntKind.i64.wrap ((j:Int)-1)=(p:Int):=by rw[IntKind.wrap_i64];omega
     have hpj:p<j:=by omega
     have Ua:=aj hp;clear hp;have hbr:blk<wr.heap.size:=SWK.lt hF hblk;obtain⟨c0,c1,c2,c3,c4⟩:=(l8 hF hblk H0.out (hzf.trans hs) (i:=j) (by omega)).all hbr;obtain⟨b0,b1,b2,b3,b4⟩:=(l8 hF hblk H0.out (hzf.trans hs) (i:=p) (by omega)).all hbr;have jh:(j:Int)<(d0.size:Int):=by omega
     have ja:(p:Int)<(d0.size:Int):=by omega
     obtain⟨xj,hxj⟩:∃x,f[j]! =x:=⟨_,rfl⟩;obtain⟨xp,hxp⟩:∃x,f[p]! =x:=⟨_,rfl⟩;rw[hxj] at c0 c1 c2 c3 c4;rw[hxp] at b0 b1 b2 b3 b4;have hcg:=a1F wr xj xp;have HX:Hid (f[j]! =xj/\f[p]! =xp):=⟨hxj,hxp⟩;clear hF hxj hxp;by_cases hk:xj.lv<xp.lv
     ·have hsg:=sM hk;have HK:Hid (f[j]!.lv<f[p]!.lv):=by rw[HX.out.1,HX.out.2];exact hk
      generalize Ec (xj.lv-xp.lv)=sv at hsg hcg;go_wp2_with fail
      go_quiet_grown (first|(go_at_call 53;exact Calls.grown_of (hcg _ _)))
      clear c0 c1 c2 c3 c4 b0 b1 b2 b3 b4 hcg hk;go_wp2_with fail;obtain⟨V,hV⟩:∃V,grow (wr.drewN nq) osq=V:=⟨_,rfl⟩;have hG:oO w0 blk off f V:=by rw[<- hV];exact HF.out.grown nq osq
      rw[hV];clear hV;obtain⟨a0,a1,a2,a3,a4,fa0,fa1,fa2,fa3,fa4⟩:=l8 hG hblk H0.out (hzf.trans hs) (i:=j) (by omega);obtain⟨b0,b1,b2,b3,b4,fb0,fb1,fb2,fb3,fb4⟩:=l8 hG hblk H0.out (hzf.trans hs) (i:=p) (by omega);have EQ:Hid _:=Ab hG hblk (i:=j) (j:=p) (by omega) (by omega);rw[HX.out.1] at a0 a1 a2 a3 a4 EQ;rw[HX.out.2] at b0 b1 b2 b3 b4 EQ;clear hG
      go_big_region
      all_goals go_wp2
      go_roundw
      case rel=>
       refine⟨p,swp f j p,by first|rfl|go_num,by have:=Ua.out;omega,by omega,?_,?_,?_⟩
       ·have h1:=HI.out;have h2:=HK.out;rw[Ua.out] at h1 h2⊢;exact h1.step (by have:=Ua.out;omega) (by have:=Ua.out;omega) h2 (by omega)
       ·exact HV.out.trans (uF.swp ⟨by omega,by omega⟩ ⟨by have:=Ua.out;omega,by omega⟩ (by omega))
       ·exact EQ.out
      case measure=>
       have:=Ua.out;simp[intOf];omega
     ·have hsg:=sN hk;have HK:Hid (f[p]!.lv<=f[j]!.lv):=by rw[HX.out.1,HX.out.2];exact Int.not_lt.1 hk
      generalize Ec (xj.lv-xp.lv)=sv at hsg hcg;go_wp2_with fail
      go_quiet_grown (first|(go_at_call 53;exact Calls.grown_of (hcg _ _)))
      clear c0 c1 c2 c3 c4 b0 b1 b2 b3 b4 hcg hk;go_wp2_with fail
      go_roundw
      case rel=>exact OUT.out _ (HF.out.grown nq osq) (.inr ⟨hja,by rw[show j-1=p from by have:=Ua.out;omega];exact HK.out⟩)
      case measure=>simp[intOf];omega
    ·have hjz:¬(a:Int)<(j:Int):=by omega
     have hjz':decide ((j:Int)>(a:Int))=false:=decide_eq_false (by omega);clear hF;go_wp2_with fail
     go_big_region
     all_goals go_wp2
     go_roundw
     case rel=>exact OUT.out _ (oO.drew HF.out) (.inl (by omega))
     case measure=>simp[intOf];omega
  ·have hltz:¬(i:Int)<(b:Int):=by omega
   obtain rfl:i=b:=by omega
   go_wp2
   go_end0
   exact⟨rfl,e,⟨HM.out,HS.out⟩,HE.out⟩
theorem Cq (a cap:Nat)(o:Option Addr)(len:Nat)(ha:a<=1000)(W:ag):
  au 148 #[.slice o len cap,aa a,aa a,pR] W fun e w'=>e=.returned (.tuple #[])/\w'=W:=by
 go_enter func148,ntmps148;have h1:¬((a:Int)+1<(a:Int)):=by omega
 go_upto_region 1 with fail
 go_loopw [8] (fun x wr=>x=aa ((a:Int)+1)/\wr=W) (fun _ _=>0)
 case atStart=>exact⟨by go_num,rfl⟩
 case round=>
  obtain⟨rfl,rfl⟩:=hrel;go_wp2
  go_end0
  exact⟨rfl,rfl⟩
end
section
variable {w0:ag}{blk off:Nat}{d0:Array S5}
def ST1 (w0:ag)(blk off:Nat)(d0:Array S5)(x y:ah)(wr:ag):Prop:=∃(a b:Nat) (e:Array S5),x=aa a/\y=aa b/\b=a+20/\a<=d0.size/\mG S5.lv S5.tag e 20 d0.size a/\uF d0 e 0 d0.size/\(∀i,a<=i->e[i]! =d0[i]!)/\oO w0 blk off e wr
def ST2 (w0:ag)(blk off:Nat)(d0:Array S5)(x:ah)(wr:ag):Prop:=∃(bs:Nat) (e:Array S5),x=aa bs/\20<=bs/\bs<=2000/\mV S5.lv S5.tag e bs d0.size 0/\uF d0 e 0 d0.size/\oO w0 blk off e wr
def ST3 (w0:ag)(blk off:Nat)(d0:Array S5)(bs:Nat)(x y:ah)(wr:ag):Prop:=∃(a b:Nat) (e:Array S5),x=aa a/\y=aa b/\b=a+2*bs/\a<=d0.size/\mG S5.lv S5.tag e (2*bs) d0.size a/\mV S5.lv S5.tag e bs d0.size a/\uF d0 e 0 d0.size/\oO w0 blk off e wr
theorem Oo (hblk:blk<w0.heap.size)(h0:HoldsK uG 5 w0 blk off d0)(hz:d0.size<=1000)(ht:∀i,i<d0.size->d0[i]!.tag=i)(cap:Nat):
  au 94 #[.slice (some ⟨blk,off,none⟩) d0.size cap,aa d0.size,pR] w0 fun e w'=>SyR w0 blk off d0 0 d0.size e w':=by
 obtain⟨n,hn⟩:∃n,d0.size=n:=⟨_,rfl⟩;have INS:Hid (∀(e:Array S5),e.size=d0.size->∀V,oO w0 blk off e V->∀a b,a<b->b<=e.size->(∀u v,a<=u->u<v->v<b->e[u]!.tag<e[v]!.tag)->au 148 #[.slice (some ⟨blk,off,none⟩) d0.size cap,aa a,aa b,pR] V fun e' w'=>SyR w0 blk off e a b e' w'):=fun e he V hV a b h1 h2 h3=>Ex hblk h0 hz he hV cap a b h1 h2 h3;have SYM:Hid (QX w0 blk off d0 cap 2000):=wP hblk h0 hz cap 2000;have HW:Hid (oO w0 blk off d0 w0):=SWK.start h0;have HTG:=aj ht;rw[hn] at hz⊢;have HN:=aj hn;rw[hn] at INS;clear h0 ht hn;go_enter func94,ntmps94;go_upto_region 2 with fail
 go_loopw [7,8] (fun x y wr=>ST1 w0 blk off d0 x y wr) (fun x _ _=>n-(intOf x).toNat)
 case atStart=>exact⟨0,20,d0,rfl,rfl,rfl,aP _,mG.zero _ _ _,uF.refl _ _ _,fun _ _=>rfl,HW.out⟩
 case round=>
  obtain⟨a,b,e,rfl,rfl,hb,ha,hR,hM,hS,hE⟩:=hrel;rw[HN.out] at ha hR hM;have HB:=aj hb;have HR:=aj hR;have HM:=aj hM;have HS:=aj hS;have XT:e.size=n:=hM.sz.trans HN.out;have TG:Hid (∀z,z<=n->∀u v,a<=u->u<v->v<z->e[u]!.tag<e[v]!.tag):=fun z hz u v h1 h2 h3=>by
   rw[HS.out u h1,HS.out v (by omega),HTG.out u (by rw[HN.out];omega),HTG.out v (by rw[HN.out];omega)];exact h2
  have TI:Hid (∀z,z<=n->∀i,a<=i->i<z->z<=a+20->a<=e[i]!.tag/\e[i]!.tag<a+20):=fun z hz i h1 h2 h3=>by
   rw[HS.out i h1,HTG.out i (by rw[HN.out];omega)];omega
  clear hR hM hS;by_cases hle:b<=n
  ·have hlez:(b:Int)<=(n:Int):=by omega
   have IC:=INS.out e (by omega) wr hE a b (by omega) (by omega) (TG.out b hle);obtain⟨b2,hb2⟩:∃b2,b+20=b2:=⟨_,rfl⟩;have hbz:(b:Int)+20=(b2:Int):=by omega
   have hbn:b<=1000:=by omega
   have HB2:=aj hb2;clear hE hb hb2;go_wp2_with(go_at_call 148;refine IC.mono ?_;rintro e w1 ⟨rfl,f,hf,hw⟩)
   go_roundw
   case rel=>
    have hb:=HB.out;have hm:min (a+20) n=b:=by omega
    refine⟨b,b2,f,rfl,rfl,by have:=HB2.out;omega,by rw[HN.out];exact hle,?_,?_,?_,hw⟩
    ·rw[HN.out,hb];exact HR.out.more (by omega) (by rw[hm];exact hf.mv) (by rw[hm];exact hf.s) (fun i h1 h2=>TI.out b hle i h1 (by omega) (by omega))
    ·rw[HN.out];exact HM.out.trans (hf.mv.mono (aP _) hle)
    ·exact fun i hi=>(hf.mv.out i (.inr hi)).trans (HS.out i (by omega))
   case measure=>
    have hb:=HB.out;simp[intOf];omega
  ·have hlez:¬(b:Int)<=(n:Int):=by omega
   have hb:b=a+20:=HB.out;have AFT:∃w1 f,(au 148 #[.slice (some ⟨blk,off,none⟩) n cap,aa a,aa n,pR] wr fun e' w'=>e'=.returned (.tuple #[])/\∃f,mV S5.lv S5.tag f 20 n 0/\uF d0 f 0 n/\oO w0 blk off f w')/\w1=wr/\f=e:=by
    refine⟨wr,e,?_,rfl,rfl⟩;by_cases han:a<n
    ·refine(INS.out e (by omega) wr hE a n han (by omega) (TG.out n ai)).mono ?_;rintro e' w1 ⟨rfl,f,hf,hw⟩;have hm:min (a+20) n=n:=by omega
     refine⟨rfl,f,(HR.out.more han (by rw[hm];exact hf.mv) (by rw[hm];exact hf.s) (fun i h1 h2=>TI.out n ai i h1 (by omega) (by omega))).done (.stop (by omega)),HM.out.trans (hf.mv.mono (aP _) ai),hw⟩
    ·obtain rfl:a=n:=by omega
     refine(Cq a cap _ a hz wr).mono ?_;rintro e' w1 ⟨rfl,rfl⟩;exact⟨rfl,e,HR.out.done (.stop ai),HM.out,hE⟩
   obtain⟨-, -,IC, -, -⟩:=AFT;clear hE hb;go_upto_region 7 with(go_at_call 148;refine IC.mono ?_;rintro e w1 ⟨rfl,f,hf1,hf2,hf3⟩);clear IC
   go_loopw [6] (fun x wr=>ST2 w0 blk off d0 x wr) (fun x _=>n-(intOf x).toNat)
   case atStart=>exact⟨20,f,rfl,Nat.le_refl _,by omega,by rw[HN.out];exact hf1,by rw[HN.out];exact hf2,hf3⟩
   case round=>
    obtain⟨bs,g,rfl,hbs,akS,hR2,hM2,hE2⟩:=hrel;rw[HN.out] at hR2 hM2;have HR2:=aj hR2;have HM2:=aj hM2;have HE2:=aj hE2;clear hR2 hM2 hE2 hf1 hf2 hf3;by_cases hlt:bs<n
    ·have hltz:(bs:Int)<(n:Int):=by omega
     obtain⟨B2,hB2⟩:∃B2,2*bs=B2:=⟨_,rfl⟩;have hBz:2*(bs:Int)=(B2:Int):=by omega
     have akT:(bs:Int)*2=(B2:Int):=by omega
     have hBn:B2<=2000:=by omega
     have HB2:=aj hB2;clear hB2;go_upto_region 9 with fail
     go_loopw [7,8] (fun x y wr=>ST3 w0 blk off d0 bs x y wr) (fun x _ _=>n-(intOf x).toNat)
     case atStart=>exact⟨0,B2,g,rfl,rfl,by have:=HB2.out;omega,aP _,mG.zero _ _ _,by rw[HN.out];exact HR2.out,by rw[HN.out];exact HM2.out,HE2.out⟩
     case round=>
      obtain⟨c,cb,k,rfl,rfl,hcb,hc,hT,hU,hM3,NK⟩:=hrel;rw[HN.out] at hc hT hU hM3;have HCB:=aj hcb;have HT:=aj hT;have HM3:=aj hM3;have hzk:k.size=n:=hM3.sz.trans HN.out;obtain⟨cm,hcm⟩:∃cm,c+bs=cm:=⟨_,rfl⟩;have hcz:(c:Int)+(bs:Int)=(cm:Int):=by omega
      by_cases hle2:cb<=n
      ·have a9E:(cb:Int)<=(n:Int):=by omega
       obtain⟨hp,htg,hrr⟩:=hU.pre (b:=cb) (by omega) (by omega) (by omega) (by omega);rw[hcm] at hp;have SC:=SYM.out k (hzk.trans HN.out.symm) wr NK c cm cb (by omega) hp;rw[HN.out] at SC;obtain⟨c3,hc3⟩:∃c3,cb+B2=c3:=⟨_,rfl⟩;have akU:(cb:Int)+(B2:Int)=(c3:Int):=by omega
       have HC3:=aj hc3;have HTI:=aj htg;have HRR:=aj hrr;have hcc:c<cb/\c<n:=by omega
       clear hU hp htg hrr NK hcb hcm hc3 hT hM3;go_wp2_with(go_at_call 149;refine SC.mono ?_;rintro e w1 ⟨rfl,q,hq,hw⟩)
       go_roundw
       case rel=>
        have hb:=HCB.out;have hm:min (c+2*bs) n=cb:=by omega
        refine⟨cb,c3,q,rfl,rfl,by have:=HC3.out;have:=HB2.out;omega,by rw[HN.out];exact hle2,?_,?_,?_,hw⟩
        ·rw[HN.out,hb];exact HT.out.more (by omega) (by rw[hm];exact hq.mv) (by rw[hm];exact hq.s) (fun i h1 h2=>HTI.out i h1 (by omega))
        ·rw[HN.out,hb];exact HRR.out.carry (fun i h1 _=>hq.mv.out i (.inr (by omega)))
        ·rw[HN.out];exact HM3.out.trans (hq.mv.mono (aP _) hle2)
       case measure=>simp[intOf];omega
      ·have a9E:¬(cb:Int)<=(n:Int):=by omega
       by_cases hm3:cm<n
       ·have adK:(cm:Int)<(n:Int):=by omega
        obtain⟨hp,htg,hrr⟩:=hU.pre (b:=n) (by omega) (by omega) (by omega) (by omega);rw[hcm] at hp;have SC:=SYM.out k (hzk.trans HN.out.symm) wr NK c cm n (by omega) hp;rw[HN.out] at SC;have HTI:=aj htg;have hcc:c<n:=by omega
        clear hU hp htg hrr NK hcb hcm hT hM3;go_wp2_with(go_at_call 149;refine SC.mono ?_;rintro e w1 ⟨rfl,q,hq,hw⟩)
        go_roundw
        case rel=>
         have hb:=HCB.out;have hm:min (c+2*bs) n=n:=by omega
         refine⟨B2,q,rfl,by have:=HB2.out;omega,hBn,?_,?_,hw⟩
         ·rw[HN.out,<- HB2.out];exact(HT.out.more hcc (by rw[hm];exact hq.mv) (by rw[hm];exact hq.s) (fun i h1 h2=>HTI.out i h1 (by omega))).done (.stop (by omega))
         ·rw[HN.out];exact HM3.out.trans (hq.mv.mono (aP _) ai)
        case measure=>simp[intOf];have:=HB2.out;omega
       ·have adK:¬(cm:Int)<(n:Int):=by omega
        have HU:Hid (mV S5.lv S5.tag k (2*bs) n c):=hU.single (by omega);clear hU hcb hcm hT hM3;have HE3:=aj NK;clear NK;go_wp2_with fail
        go_roundw
        case rel=>exact⟨B2,k,rfl,by have:=HB2.out;omega,hBn,by rw[HN.out,<- HB2.out];exact HT.out.done HU.out,by rw[HN.out];exact HM3.out,HE3.out⟩
        case measure=>simp[intOf];have:=HB2.out;omega
    ·have hltz:¬(bs:Int)<(n:Int):=by omega
     go_wp2
     go_end0
     exact⟨rfl,g,⟨HM2.out,HR2.out.whole (by omega)⟩,HE2.out⟩
theorem Cr (hblk:blk<w0.heap.size)(h0:HoldsK uG 5 w0 blk off d0)(hz:d0.size<=1000)(ht:∀i,i<d0.size->d0[i]!.tag=i)(cap:Nat):
  au 52 #[.slice (some ⟨blk,off,none⟩) d0.size cap,pR] w0 fun e w'=>SyR w0 blk off d0 0 d0.size e w':=by
 have SA:=Oo hblk h0 hz ht cap;clear h0 ht;go_enter func52,ntmps52;go_wp2_with(go_at_call 94;refine SA.mono ?_;rintro e w1 ⟨rfl,hr⟩)
 go_end0
 exact⟨rfl,hr⟩
end
end
end Go.Proofs.YtecneflbncjhpaaGreatDoor
