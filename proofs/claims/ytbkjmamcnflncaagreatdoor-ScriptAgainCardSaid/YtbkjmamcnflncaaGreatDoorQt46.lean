import Derived.Test.YtbkjmamcnflncaaGreatDoorQt45
import Derived.Test.YtbkjmamcnflncaaGreatDoorCards
import Derived.Test.YtbkjmamcnflncaaGreatDoorTie
import Derived.ProofKit
namespace Go.Proofs.YtbkjmamcnflncaaGreatDoor
open Go.Proofs.Tryz
set_option maxHeartbeats 16000000
section
open Go.RowKit
theorem Tx (c:UInt8)(n:Int)(w:ai)(d:(c.toNat:Int)=n):
  aL 67 #[ag n] w λe w'=>e=ay (au ⟨#[c]⟩)/\aD w w':=by
 have f:=WQ c;have g:(0:Int)<=(c.toNat:Int):=aa;subst d;have a:=run_convert_bytes_back (P:=prog) (w.alloc (ak #[.int .u8 c.toNat] 5)) 185 9 5 ⟨w.heap.size,0,none⟩ 1 [c] underlying185 underlying5 underlying9 (λj b=>by
  have:j=0:=by simp at b;exact b
  subst this;simp[Addr.add])
 simp only[eZ,iT,gq] at a;go_enter func67,ntmps67;go_wp2;go_ret;exact⟨rfl,(aW _ _).alloc az _⟩
theorem a0M (k:Nat)(h:k<=9223372036854775807):(Lib.decDigits k).length<=21:=by
 have:=Lib.itoa_length_le (k:Int) aa aa;rwa[Lib.itoa_nonneg] at this
theorem Ml:∀(u:Nat) (n:Int) (w:ai),n.natAbs=u -> -9223372036854775808<=n->n<=0->
  aL 36 #[ag n] w λe w'=>e=ay (au ⟨(Lib.decDigits u).toArray⟩)/\aD w w':=by
 intro u
 induction u using Nat.strongRecOn with
 |ind u l=>
  intro n w j E F;by_cases H: -10<n
  .have d:Lib.decDigits u=[UInt8.ofNat (48+u)]:=by rw[Lib.decDigits,dif_pos aa]
   rw[d];have f:((UInt8.ofNat (48+u)).toNat:Int)=48-n:=bq;have g:=aF f;generalize UInt8.ofNat (48+u)=c at g⊢;clear f d l j;go_enter func36,ntmps36;go_wp2_with(go_at_call 67;refine(Tx _ _ _ g.out).mono ?_;rintro e y ⟨rfl,k⟩);go_ret;exact⟨rfl,k⟩
  .obtain⟨q,v⟩:∃q,n.tdiv 10=q:=⟨_,rfl⟩;obtain⟨r,x⟩:∃r,n.tmod 10=r:=⟨_,rfl⟩;have i:q.natAbs=u/10:=by rw[<- v,Int.natAbs_tdiv,j];rfl
   have m:r.natAbs=u % 10:=by rw[<- x,Int.natAbs_tmod];simp[j]
   have o:q<=0:=by rw[<- v];have h:=Int.neg_tdiv n 10;have z:0<=(-n).tdiv 10:=Int.tdiv_nonneg aa aC;omega
   have A:r<=0:=by rw[<- x];have h:=Int.neg_tmod n 10;have z:0<=(-n).tmod 10:=Int.tmod_nonneg _ aa;omega
   have B:u<=9223372036854775808:=aa;have p: -9223372036854775808<=q:=aa;have C: -10<r:=aa;have d:Lib.decDigits u=Lib.decDigits (u/10)++[UInt8.ofNat (48+u % 10)]:=by rw[Lib.decDigits,dif_neg aa]
   have f:((UInt8.ofNat (48+u % 10)).toNat:Int)=48-r:=bq;obtain⟨s,a⟩:∃s:aO,(⟨(Lib.decDigits (u/10)).toArray⟩:aO)=s:=⟨_,rfl⟩;have I:s.size<=21:=by
    rw[<- a];have:=a0M (u/10) aa;simpa[ByteArray.size] using this
   have J:¬9223372036854775807<s.size+1:=aa;have b:(⟨(Lib.decDigits u).toArray⟩:aO)=s++⟨#[UInt8.ofNat (48+u % 10)]⟩:=by
    rw[d,<- a];apply ByteArray.ext;simp
   rw[b];have D:Hid (∀W,aL 36 #[ag q] W λe w'=>e=ay (au s)/\aD W w'):=by
    intro W;have:=l (u/10) aa q W i p o;rw[a] at this;exact this
   have g:=aF f;generalize UInt8.ofNat (48+u % 10)=c at g⊢;clear f d l j i m a b;go_enter func36,ntmps36;go_wp2_with(first|(go_at_call 36;refine(D.out _).mono ?_;rintro e y ⟨rfl,k⟩)|(go_at_call 67;refine(Tx c _ _ g.out).mono ?_;rintro e K ⟨rfl,t⟩));go_ret;exact⟨rfl,k.trans (t.mono k.size)⟩
theorem Ty (n:Int)(w:ai)(h:kU n):
  aL 17 #[ag n] w λe w'=>e=ay (au ⟨(Lib.itoa n).toArray⟩)/\aD w w':=by
 obtain⟨g,i⟩:=h;by_cases c:n<0
 .obtain⟨s,b⟩:∃s:aO,(⟨(Lib.decDigits n.natAbs).toArray⟩:aO)=s:=⟨_,rfl⟩;have k:s.size<=30:=by
   rw[<- b];have:=Lib.itoa_length_le n g i;unfold Lib.itoa at this;rw[aR c,eZ] at this;simp[ByteArray.size];omega
  have l:¬9223372036854775807<1+s.size:=aa;have a:(⟨(Lib.itoa n).toArray⟩:aO)=⟨#[45]⟩++s:=by
   unfold Lib.itoa;rw[aR c,<- b];apply ByteArray.ext;simp
  rw[a];have d:Hid (∀W,aL 36 #[ag n] W λe w'=>e=ay (au s)/\aD W w'):=by
   intro W;have:=Ml n.natAbs n W rfl g aa;rw[b] at this;exact this
  clear b a;go_enter func17,ntmps17;go_wp2_with(go_at_call 36;refine(d.out _).mono ?_;rintro e j ⟨rfl,f⟩);go_ret;exact⟨rfl,f⟩
 .have a:Lib.itoa n=Lib.decDigits n.natAbs:=by unfold Lib.itoa;rw[aG c];congr 1;omega
  rw[a];have d:Hid (∀W,aL 36 #[ag (-n)] W λe w'=>e=ay (au ⟨(Lib.decDigits n.natAbs).toArray⟩)/\aD W w'):=λW=>Ml n.natAbs (-n) W aa aa aa;clear a;go_enter func17,ntmps17;go_wp2_with(go_at_call 36;refine(d.out _).mono ?_;rintro e j ⟨rfl,f⟩);go_ret;exact⟨rfl,f⟩
end
section
open Go.RowKit Go.Maps Go.Shelf
set_option maxRecDepth 20000
def JA (w:ai)(o:Option Addr)(c:List Int):Prop:=∀i x,c[i]? =some x->∃b a,o=some ⟨b,a,none⟩/\w.cell? (aJ b (a+i))=some (ag x)
theorem JA.below {w w':ai}{o:Option Addr}{c:List Int}(h:JA w o c)(e:aD w w'):JA w' o c:=λi x f=>by
 obtain⟨b,a,g,d⟩:=h i x f;exact⟨b,a,g,(e.cell (aX d)).trans d⟩
theorem adQ (o:Option Nat):0<=(fmC o).1/\(fmC o).1<=3:=by
 cases o with
 |none=>exact⟨Int.le_refl _,aC⟩
 |some i=>
  show 0<=(fmT i).1/\(fmT i).1<=3;rcases i with _|_|_|_|_|_|_|_|_|_|_|i<;>exact⟨by simp[fmT],by simp[fmT]⟩
abbrev lnA (a:aO)(o:Option Addr)(n k:Nat)(nm tx:aO):Array ax:=#[au a,aj o n k,au nm,au tx]
def LnO (e:Ending):Prop:=∃(t:aO) (b:Bool),e=ay (aH #[au t,.bool b])/\t.size<=1000
section
variable {W:ai}
theorem Wl (a nm tx:aO)(A:Option Addr)(r:List Int)(R:Nat)(ha:a.size<=60)(B:nm.size<=60)(D:tx.size<=600)(hN:JA W A r):
  aL 11 #[.agg (lnA a A r.length R nm tx)] W λe w'=>LnO e/\aD W w':=by
 have S:=dR W (ak (lnA a A r.length R nm tx) 37);have p:=dY W (lnA a A r.length R nm tx) 37;have t:=hN.below S;have T:=λV=>Wj (bS a) V;obtain⟨a4,a5⟩:=adQ (Aa (bS a));obtain⟨F,hF⟩:∃F,(fmC (Aa (bS a))).1=F:=⟨_,rfl⟩;obtain⟨fb,E⟩:∃F,(fmC (Aa (bS a))).2.1=F:=⟨_,rfl⟩;obtain⟨fc,H⟩:∃F,(fmC (Aa (bS a))).2.2=F:=⟨_,rfl⟩;obtain⟨is,I⟩:∃F,(Aa (bS a)).isSome=F:=⟨_,rfl⟩;rw[hF,E,H,I,aav] at T;rw[hF] at a4 a5;have T:=λV=>(T V).mono (R':=λe w'=>e=ay (aH #[ag F,.bool fb,.bool fc,.bool is])/\V=w') λe w' ⟨h1,h2⟩=>⟨h1,h2.symm⟩;obtain⟨n,J⟩:∃n,r.length=n:=⟨_,rfl⟩;obtain⟨U,K⟩:∃U,W.alloc (ak (lnA a A r.length R nm tx) 37)=U:=⟨_,rfl⟩;obtain⟨C,hC⟩:∃C,W.heap.size=C:=⟨_,rfl⟩;have X:Hid (aD W U):=by rw[<- K];exact S
 rw[K] at S p t;rw[hC] at p;rw[J] at p;have x0:=aQ p 0 _ rfl;have x1:=aQ p 1 _ rfl;have x2:=aQ p 2 _ rfl;have x3:=aQ p 3 _ rfl;have HN:=aF J;have HI:=aF t;rw[J] at K;rw[J];obtain⟨N,c⟩:∃N,W.heap.size=N:=⟨_,rfl⟩;have f:=aF c;unfold aD;rw[c];rw[c] at hC;subst hC;clear hN t hF E H I J p S;go_enter func11,ntmps11;go_upto_region 1 with fail
 try rw[K]
 try rw[c]
 clear K c;go_upto_region 2 with(go_at_call 9;refine(T _).mono ?_;rintro e w1 ⟨rfl,rfl⟩);cases is with
 |false=>
  go_wp2_with fail
  go_ret2
  exact⟨⟨_,_,rfl,aC⟩,by rw[<- f.out];exact X.out⟩
 |true=>
  by_cases g:(n:Int)=F
  case neg=>
   have hq:((n:Int) !=F)=true:=by simpa using g
   clear g;go_wp2_with fail
   go_ret2
   exact⟨⟨_,_,rfl,aC⟩,by rw[<- f.out];exact X.out⟩
  have hq:((n:Int) !=F)=false:=by simpa using g
  subst g;go_upto_region 5 with fail;go_wp2_with fail
  go_loopw [8,9] (λu i wr=>∃(k:Nat) (s:aO),k<=n/\u=au s/\i=ag k/\s.size<=60+30*k/\aD U wr) (λ_ i _=>n-(intOf i).toNat)
  case atStart=>exact⟨0,a,bA _,rfl,rfl,aa,aW _ _⟩
  case round=>
   obtain⟨k,s,hk,rfl,rfl,hs,h⟩:=hrel;have b9:=h.size;have Y:=(h.cell (aM x0)).trans x0;have y1:=(h.cell (aM x1)).trans x1;have Z:=(h.cell (aM x2)).trans x2;have y3:=(h.cell (aM x3)).trans x3;have w:Below N W wr:=by rw[<- f.out];exact bf X.out h
   by_cases a6:k<n
   .have b8:(k:Int)<(n:Int):=aa;obtain⟨x,hx⟩:∃x,r[k]? =some x:=⟨_,fD (by rw[HN.out];exact a6)⟩;obtain⟨bN,c0,rfl,cx⟩:=HI.out k x hx;have cx:=(h.cell (aX cx)).trans cx;clear hx;by_cases h1:x<0
    .go_wp2_with fail
     go_ret2
     exact⟨⟨_,_,rfl,aC⟩,w⟩
    by_cases h2:9999999<x
    .go_wp2_with fail
     go_ret2
     exact⟨⟨_,_,rfl,aC⟩,w⟩
    have L:kU x:=⟨aa,aa⟩;have DM:=Ty x wr L;obtain⟨d,hd⟩:∃d:aO,⟨(Lib.itoa x).toArray⟩=d:=⟨_,rfl⟩;have c1:d.size<=21:=by
     have:=D9 L;unfold yY at this;rw[hd] at this;exact this
    rw[hd] at DM;have hA:¬9223372036854775807<s.size+1:=aa;have a7:¬9223372036854775807<s.size+1+d.size:=aa;have a8:(s++⟨#[32]⟩++d).size<=60+30*(k+1):=by
     have M:(⟨#[32]⟩:aO).size=1:=rfl;simp only[ByteArray.size_append,M];omega
    clear hd;go_wp2_with(go_at_call 17;refine DM.mono ?_;rintro e w3 ⟨rfl,b3⟩)
    go_roundw
    case rel=>exact⟨k+1,_,aa,rfl,by go_num,a8,aP h b3⟩
    case measure=>simp[intOf];omega
   .obtain rfl:k=n:=aa;have a9:s.size<=150:=aa;have CT:=a9y nm 32 wr aa;have c2:Hid (nm.size<=60/\tx.size<=600/\s.size<=150):=⟨B,D,a9⟩;have b1:¬9223372036854775807<s.size+1:=aa;have a7:¬9223372036854775807<s.size+1+nm.size:=aa;have b2:¬9223372036854775807<s.size+1+tx.size:=aa;have b5:(s++⟨#[32]⟩++nm).size<=300:=by
     have M:(⟨#[32]⟩:aO).size=1:=rfl;simp only[ByteArray.size_append,M];omega
    have O:∀V,aD wr V->Below N W V:=λV hV=>by rw[<- f.out];exact bf (bf X.out h) hV
    have TL:∀q:aO,q.size<=300->¬9223372036854775807<q.size+1/\¬9223372036854775807<q.size+1+tx.size/\(q++⟨#[32]⟩++tx).size<=1000:=λq hq=>by
     have M:(⟨#[32]⟩:aO).size=1:=rfl;simp only[ByteArray.size_append,M];omega
    have P:∀(l:List UInt8) (z:aO),(z.toList==l)=true\/(z.toList==l)=false:=λl z=>by cases z.toList==l<;>simp
    have EM:∀z:aO,z.toList.isEmpty=(z.toList==[]):=λz=>by cases z.toList<;>rfl
    cases fb with
    |false=>
     cases fc with
     |false=>
      go_wp2_with fail
      go_ret2
      exact⟨⟨_,_,rfl,aa⟩,w⟩
     |true=>
      obtain⟨t1,t2,t3⟩:=TL s aa;rcases P [115,104,101,101,116] a with e1|e1
      .have e3:=EM tx;rcases P [] tx with y|y
       all_goals
        rw[y] at e3;go_wp2_with fail
        go_ret2
        first|exact⟨⟨_,_,rfl,t3⟩,w⟩|exact⟨⟨_,_,rfl,show(⟨#[115,104,101,101,116]⟩:aO).size<=1000 by decide⟩,w⟩
      .go_wp2_with fail
       go_ret2
       exact⟨⟨_,_,rfl,t3⟩,w⟩
    |true=>
     have e3:=EM nm;rcases P [] nm with y|y
     .rw[y] at e3;go_wp2_with fail
      go_ret2
      exact⟨⟨_,_,rfl,aC⟩,w⟩
     rw[y] at e3;have Q:aL 8 #[au nm,.int .u8 32] wr λe w'=>∃(o:Option Addr) (m cp:Nat),e=ay (aj o m cp)/\aD wr w':=CT.mono λe w' ⟨v,g1,g2,g3⟩=>by
      obtain⟨o9,c9,rfl⟩:=bD g2;exact⟨_,_,_,g1,g3⟩
     clear CT;obtain⟨-, -,t3⟩:=TL (s++⟨#[32]⟩++nm) b5;have c3:¬9223372036854775807<s.size+1+nm.size+1:=aa;have c5:¬9223372036854775807<s.size+1+nm.size+1+tx.size:=aa;have hz:(⟨#[]⟩:aO).size<=1000:=aC;have b6:(⟨#[115,104,101,101,116]⟩:aO).size<=1000:=aC;have b7:(s++⟨#[32]⟩++nm).size<=1000:=aa;have e4:=EM tx;clear TL EM B D b1 b2;cases fc with
     |false=>
      go_wp2_with(go_at_call 8;refine Q.mono ?_;rintro e w4 ⟨o4,m4,c4,rfl,j⟩;have b:=O _ j;have z0:=(j.cell (aM Y)).trans Y;have z2:=(j.cell (aM Z)).trans Z;have z3:=(j.cell (aM y3)).trans y3;by_cases hm:(1:Int)<(m4:Int))
      all_goals
       go_wp2_with fail
       go_ret2
       first|exact⟨⟨_,_,rfl,hz⟩,b⟩|exact⟨⟨_,_,rfl,b7⟩,b⟩
     |true=>
      rcases P [115,104,101,101,116] a with e1|e1
      all_goals
       rcases P [] tx with e5|e5
       all_goals
        rw[e5] at e4;go_wp2_with(go_at_call 8;refine Q.mono ?_;rintro e w4 ⟨o4,m4,c4,rfl,j⟩;have b:=O _ j;have z0:=(j.cell (aM Y)).trans Y;have z2:=(j.cell (aM Z)).trans Z;have z3:=(j.cell (aM y3)).trans y3;by_cases hm:(1:Int)<(m4:Int))
        all_goals
         go_wp2_with fail
         go_ret2
         first|exact⟨⟨_,_,rfl,hz⟩,b⟩|exact⟨⟨_,_,rfl,t3⟩,b⟩|exact⟨⟨_,_,rfl,b6⟩,b⟩
end
structure Ln where
 a:aO
 o:Option Addr
 ns:List Int
 k:Nat
 nm:aO
 tx:aO
def a5A (w:ai)(o:Option Addr)(l:List Ln):Prop:=∀i x,l[i]? =some x->∃b a,o=some ⟨b,a,none⟩/\w.cell? (aJ b (a+i*4))=some (au x.a)/\w.cell? (aJ b (a+i*4+1))=some (aj x.o x.ns.length x.k)/\w.cell? (aJ b (a+i*4+2))=some (au x.nm)/\w.cell? (aJ b (a+i*4+3))=some (au x.tx)/\JA w x.o x.ns
def ahL (a b:ax)(w:ai)(K:ax->ai->Prop):Prop:=∀e,∃c d,(Builtin.append_ #[22,22] e #[a,b]).run prog w=.ok c d/\K c d
theorem a5B {w:ai}{N n:Nat}{v:ax}{b:List ax}(d:w.ownsRow N 9 1 v n b)(s:∀u∈b,u.oneCell'=true)(E:n<=1000000){B:Nat}(t:B<=w.heap.size):ahL (aj none 0 0) v w λm w'=>∃o cp,m=aj o n cp/\w'.ownsRow B 9 1 (aj o n cp) n b/\aD w w':=λp=>by
 obtain⟨q,r,e,f,h⟩:=info_parts CZ;have a:=d.1;rw[Nat.mul_one] at a;rcases d.2 with⟨rfl,rfl⟩|⟨g,i,x,rfl, -⟩
 .obtain rfl:b=[]:=lu.1 a;exact⟨_,_,run_append_owned_none w B 22 p 9 q 1 underlying22 r (aj none 0 0) 0 [] (gp _ _ _ _),none,0,rfl,gp _ _ _ _,aW _ _⟩
 .obtain⟨m,w',y,k,z, -⟩:=run_append_own (P:=prog) w B 22 p 9 q (au ⟨#[]⟩) 1 16 underlying22 r e f h rfl aC (aj none 0 0) 0 [] (gp _ _ _ _) ⟨g,0,none⟩ n i b (by rw[a];omega) (λj u A=>by
   obtain⟨F,l,C⟩:=eF d j u A;cases l;have c:(⟨g,0,none⟩:Addr).add j=⟨g,j,none⟩:=by unfold Addr.add;split<;>simp_all
   rw[c];exact C) s (by simp only[maxLen];omega) aa t
  rw[gq,gK] at k;obtain⟨o,cp,rfl⟩:=bD k;exact⟨_,_,y,o,cp,rfl,k,(aW _ _).grown z az (λj D=>by simp[Value.ownBlock] at D)⟩
theorem a5C {w:ai}{b:Array Oper}{rest:List Oper}{o:Oper}{a:Act}{Q:Exit->Act->ai->Prop}(d:o.guard=none)(s x:Operand)
  (e:o.op=.call {callee:=.builtin .append,args:=#[s,x],argTypes:=#[22,22]}) (u v:ax) (hs:a.eval s=u) (f:a.eval x=v) {R:ax->ai->Prop} (g:ahL u v w R)
  (h:∀c w',R c w'->wpList prog b Q rest (a.put o.dst c) w'):wpList prog b Q (o::rest) a w:=
 wpList_plain d λ_ i=>by
  obtain⟨c,w',j,k⟩:=g o.type;unfold Oper.wp execOp;simp only[e,resolve,invoke,builtin,Sem.run_bind,Sem.run_pure,Result.andThen_ok,List.map_toArray,ny,List.map_nil,hs,f,j];exact i _ _ (h c w' k)
theorem oH.take {w:ai}{o:Option Addr}{l:List aO}(h:oH w o l)(k:Nat):oH w o (l.take k):=λi s a=>by
 rw[zg] at a;split at a
 .exact h i s a
 .cases a
section
variable {E:Nat->Addr}{T:Nat->Bs}{W:ai}
theorem Fb (hE:PE E W)(hT:Tj E T W)(L:List Ln)(lo:Option Addr)(kl:Nat)(c:Int)(ha:a5A W lo L):
  aL 4 #[aj lo L.length kl,ag c] W λe w'=>e=ay (.bool true)/\aD W w':=by
 have Z:=a0K hE hT;have HE:Hid (PE E W/\Tj E T W):=⟨hE,hT⟩;have HA:=aF ha;obtain⟨i0,hi,a8,a9,b2⟩:=info_parts CZ;obtain⟨n,hn⟩:∃n,L.length=n:=⟨_,rfl⟩;have HN:=aF hn;rw[hn];clear hE hT ha hn;by_cases hb:30<n
 .have N:(30:Int)<(n:Int):=aa;go_enter func4,ntmps4;go_wp2_with(go_at_call 5;refine Z.mono ?_;rintro e O ⟨rfl,H⟩);go_ret;exact⟨rfl,H⟩
 have N:¬(30:Int)<(n:Int):=aa;by_cases b3:c<0
 .go_enter func4,ntmps4;go_wp2_with(go_at_call 5;refine Z.mono ?_;rintro e O ⟨rfl,H⟩);go_ret;exact⟨rfl,H⟩
 by_cases b9:(n:Int)<c
 .go_enter func4,ntmps4;go_wp2_with(go_at_call 5;refine Z.mono ?_;rintro e O ⟨rfl,H⟩);go_ret;exact⟨rfl,H⟩
 go_enter func4,ntmps4;go_upto_region 6 with(go_at_call 5;refine Z.mono ?_;rintro e O ⟨rfl,H⟩);have a4:=aF H;clear Z H;go_wp2_with fail
 go_loopw [6,7,8] (λu a i wr=>∃(k:Nat) (p:List Bs) (o:Option Addr) (m I l:Nat),k<=n/\u=aj o m I/\a=ag l/\i=ag k/\m<=k/\l<=m/\Hid (wr.ownsRow O.heap.size 9 1 (aj o m I) m (p.map bV)/\p.length=m/\∀x∈p,x.length<=1000)/\aD O wr) (λ_ _ i _=>n-(intOf i).toNat)
 case atStart=>exact⟨0,[],none,0,0,0,bA _,rfl,rfl,rfl,bJ _,bJ _,⟨gp _ _ _ _,rfl,λx f=>by cases f⟩,aW _ _⟩
 case round=>
  obtain⟨k,p,o,m,I,l,hk,rfl,rfl,rfl,e2,c4,d,J⟩:=hrel;by_cases d0:k<n
  .have e1:(k:Int)<(n:Int):=aa;obtain⟨x,f⟩:∃x,L[k]? =some x:=⟨_,fD (by rw[HN.out];exact d0)⟩;obtain⟨b0,e3,rfl,c0,c1,c2,c3,K⟩:=HA.out k x f;have q:=bf a4.out J;have c0:=(q.cell (aM c0)).trans c0;have c1:=(q.cell (aM c1)).trans c1;have c2:=(q.cell (aM c2)).trans c2;have c3:=(q.cell (aM c3)).trans c3;have K:=K.below q;obtain⟨B,r⟩:∃B,x.ns.length=B:=⟨_,rfl⟩;obtain⟨P,g⟩:∃z,x.a=z:=⟨_,rfl⟩;obtain⟨Y,h⟩:∃z,x.nm=z:=⟨_,rfl⟩;obtain⟨z3,s⟩:∃z,x.tx=z:=⟨_,rfl⟩;rw[g] at c0;rw[r] at c1;rw[h] at c2;rw[s] at c3;by_cases g1:5<B
   .have C:(5:Int)<(B:Int):=aa;clear f d J K r g h s;go_wp2_with fail;go_ret;exact⟨rfl,q⟩
   by_cases M:60<P.size
   .have Q:(60:Int)<(P.size:Int):=aa;have C:¬(5:Int)<(B:Int):=aa;clear f d J K r g h s;go_wp2_with fail;go_ret;exact⟨rfl,q⟩
   by_cases g3:60<Y.size
   .have a5:(60:Int)<(Y.size:Int):=aa;have Q:¬(60:Int)<(P.size:Int):=aa;have C:¬(5:Int)<(B:Int):=aa;clear f d J K r g h s;go_wp2_with fail;go_ret;exact⟨rfl,q⟩
   by_cases g4:600<z3.size
   .have d4:(600:Int)<(z3.size:Int):=aa;have a5:¬(60:Int)<(Y.size:Int):=aa;have Q:¬(60:Int)<(P.size:Int):=aa;have C:¬(5:Int)<(B:Int):=aa;clear f d J K r g h s;go_wp2_with fail;go_ret;exact⟨rfl,q⟩
   have d4:¬(600:Int)<(z3.size:Int):=aa;have a5:¬(60:Int)<(Y.size:Int):=aa;have Q:¬(60:Int)<(P.size:Int):=aa;have C:¬(5:Int)<(B:Int):=aa;have LO:=Wl P Y z3 x.o x.ns x.k aa aa aa K;rw[r] at LO;have a6:aL 11 #[.agg (lnA P x.o B x.k Y z3)] wr λe w'=>∃(t:aO) (b:Bool),e=ay (aH #[au t,.bool b])/\Hid (t.size<=1000)/\aD wr w':=LO.mono λe w' ⟨⟨t,b,g5,g6⟩,g7⟩=>⟨t,b,g5,g6,g7⟩;clear LO f K r g h s hb N g1 M g3 g4;go_upto_region 12 with(go_at_call 11;refine a6.mono ?_;rintro e w4 ⟨t,b,rfl,ht,b4⟩);clear a6 c0 c1 c2 c3 q;have B4:=aP J b4;have o4:=bY d.out.1 b4;cases b with
   |false=>
    by_cases d6:(k:Int)<c
    .go_wp2_with fail
     go_roundw
     case rel=>exact⟨k+1,p,o,m,I,m,aa,rfl,rfl,by go_num,aa,bJ _,⟨o4,d.out.2⟩,B4⟩
     case measure=>simp[intOf];omega
    .go_wp2_with fail
     go_roundw
     case rel=>exact⟨k+1,p,o,m,I,l,aa,rfl,rfl,by go_num,aa,c4,⟨o4,d.out.2⟩,B4⟩
     case measure=>simp[intOf];omega
   |true=>
    have Qw:=iF o4 (ak #[au t] 9);have H0:=fE w4 (ak #[au t] 9);have s4:=B4.size;go_upto_region 13 with fail;go_upto_region 14 with(at_builtin;refine wpList_append_own _ rfl _ _ 22 rfl O.heap.size 9 i0 (au ⟨#[]⟩) 1 16 underlying22 hi a8 a9 b2 rfl aC _ _ _ rfl Qw ⟨w4.heap.size,0,none⟩ 1 1 [au t] rfl rfl (World.news_of_block H0) (λu A=>by simp at A;subst A;rfl) (by simp only[maxLen];omega) aa bq ?_;intro v7 w7 kN lJ _;obtain⟨o7,c7,rfl⟩:=bD kN);have B7:=(B4.alloc aa _).grown lJ bq (λj hj=>(o4.lt j hj).1);have HO:Hid (w7.ownsRow O.heap.size 9 1 (aj o7 (m+1) c7) (m+1) ((p++[bS t]).map bV)/\(p++[bS t]).length=m+1/\∀x∈p++[bS t],x.length<=1000):=⟨by rw[iK];exact kN,by rw[dO,d.out.2.1];rfl,λx f=>by
     rcases iw.1 f with f|f
     .exact d.out.2.2 x f
     .rw[List.mem_singleton.1 f];exact ht.out⟩
    by_cases d6:(k:Int)<c
    .go_wp2_with fail
     go_roundw
     case rel=>exact⟨k+1,p++[bS t],o7,m+1,c7,m+1,aa,rfl,by go_num,by go_num,aa,bJ _,HO,B7⟩
     case measure=>simp[intOf];omega
    .go_wp2_with fail
     go_roundw
     case rel=>exact⟨k+1,p++[bS t],o7,m+1,c7,l,aa,rfl,rfl,by go_num,aa,aa,HO,B7⟩
     case measure=>simp[intOf];omega
  .obtain rfl:k=n:=aa;obtain⟨ss,us,d1,d2,d3⟩:=Yj (E:=E) (T:=T) p 0 s00 amL (by have:=d.out.2.1;omega) d.out.2.2;have q:=bf a4.out J;have HW:=aF q;have P0:Hid (∀V,aD wr V->PE E V/\Tj E T V):=λV D=>⟨HE.out.1.below (bf q D),HE.out.2.below (bf q D)⟩;have w:us.length=m:=by rw[d2];exact d.out.2.1
   have e4:=aF w;have A1:=a5B d.out.1 (λu A=>by obtain⟨y, -,rfl⟩:=gL.1 A;rfl) aa (bJ wr.heap.size);obtain⟨oo,cc,d7,e5, -, -, -⟩:=eT d.out.1;cases d7;have RA:∀V o' F,aD wr V->V.ownsRow wr.heap.size 9 1 (aj o' m F) m (p.map bV)->aL 6 #[aj o' m F] V λe w'=>∃(o8:Option Addr) (c8:Nat),e=ay (aH #[aj o8 m c8,aY])/\m<=c8/\Hid (oH w' o8 (us.map λx=>⟨x.toArray⟩))/\aD V w':=λV o' F D ho=>by
    obtain⟨d8,d9,R,S, -, -, -⟩:=eT ho;cases R;obtain⟨o9,c9,U,X⟩:=Jy ho;cases U;refine(Ol (P0.out V D).1 (P0.out V D).2 ss p us m d.out.2.1 w aa d1 (λi x u f A=>(d3 i x u f A).1) o' F X S).mono λe w' ⟨v,g1,M,g3⟩=>?_;obtain⟨oq,cq,rfl⟩:=bD M;obtain⟨d8,d9,R,S, -, -, -⟩:=eT M;cases R;obtain⟨o9,c9,U,X⟩:=Jy M;cases U;exact⟨_,_,g1,S,X,g3⟩
   have RB:∀V,aD wr V->aL 6 #[aj o l I] V λe w'=>∃(o8:Option Addr) (c8:Nat),e=ay (aH #[aj o8 l c8,aY])/\Hid (oH w' o8 ((us.take l).map λx=>⟨x.toArray⟩))/\aD V w':=λV D=>by
    obtain⟨o9,c9,U,X⟩:=Jy (bY d.out.1 D);cases U;refine(Ol (P0.out V D).1 (P0.out V D).2 ss (p.take l) (us.take l) l (by rw[iR,d.out.2.1];omega) (by rw[iR,w];omega) aa d1 (λi x u f A=>by
     rw[zg] at f A;split at f
     .next hi=>rw[aR hi] at A;exact(d3 i x u f A).1
     .cases f) o I (by rw[List.map_take];exact X.take l) aa).mono λe w' ⟨v,g1,M,g3⟩=>?_
    obtain⟨oq,cq,rfl⟩:=bD M;obtain⟨o9,c9,U,X⟩:=Jy M;cases U;exact⟨_,_,g1,X,g3⟩
   have e6:(l:Int)<=(I:Int):=aa;have SA:∀V oa ob ca cb,Hid (oH V oa (us.map λx=>⟨x.toArray⟩))->Hid (oH V ob ((us.take l).map λx=>⟨x.toArray⟩))->aL 12 #[aj oa l ca,aj ob l cb] V λe w'=>e=ay (.bool true)/\aD V w':=λV oa ob ca cb h1 h2=>Yk (us:=us.take l) (by rw[iR,w];omega) rfl aa (by rw[List.map_take];exact h1.out.take l) h2.out;clear d1 d2 d3 w d J q hb N b3 b9;go_upto_region 17 with fail;go_upto_region 18 with(first|(at_builtin;refine a5C rfl _ _ rfl _ _ rfl rfl A1 ?_;rintro v5 w5 ⟨o5,c5,rfl,vN,b5⟩)|(go_at_call 6;refine(RA w5 o5 c5 b5 vN).mono ?_;rintro e w6 ⟨o6,c6,rfl,e7,t6,b6⟩));have B6:=bf b5 b6;have a7:=RB w6 B6;have e8:(l:Int)<=(c6:Int):=aa;clear RA RB A1;go_upto_region 19 with(go_at_call 6;refine a7.mono ?_;rintro e w7 ⟨o7,c7,rfl,t7,b7⟩);have e0:Hid (oH w7 o6 (us.map λx=>⟨x.toArray⟩)):=t6.out.below b7;have S7:=SA w7 o6 o7 c6 c7 e0 t7;have B7:=bf (bf HW.out B6) b7;clear SA a7;go_wp2_with(go_at_call 12;refine S7.mono ?_;rintro e w8 ⟨rfl,b8⟩);go_ret;exact⟨rfl,bf B7 b8⟩
end
end
open Go.ChangeShapes Go.WideShapes Go.RowKit
theorem amQ:ownKnob prog.godebug=none:=aA
theorem a9z {w:ai}{a:Addr}{v:ax}(h:w.cell? a=some v):∃b off,a=⟨b,off,none⟩:=by
 obtain⟨b,off,c⟩:=a;cases c with
 |some s=>
  simp[World.cell?] at h;grind
 |none=>exact⟨b,off,rfl⟩
set_option maxRecDepth 100000
section
variable {H:Type}{enc:TypeId×ax->H}{w:ai}{A:Nat}{D:Nat->Bool}{I:Bool}
theorem Mm {α:Type}{P:Program}{t e:TypeId}{k:Nat}(E:0<k)(F:P.underlying t=some (.slice e))(hc:P.cellsOf e=k){Q:Nat->Nat->α->Prop}
  (J:∀n b off cs x,cs.length=k->(∀j,j<k->w.cell? (aJ b (off+j))=cs[j]?)->DataW.trod enc P w A D I n e cs=some x->∃y,Q b off y)
  {fuel:Nat} {cs:List ax} {x:DataW H×List MemPlace} (h:DataW.trod enc P w A D I fuel t cs=some x):
  ∃o d,∃l:List α,cs=[.slice o l.length d]/\∀(i:Nat) y,l[i]? =some y->∃b off,o=some ⟨b,off,none⟩/\Q b (off+i*k) y:=by
 rcases DataW.trod_slice F h with⟨rfl,_⟩|⟨⟨b,off,v⟩,m,d,a,rest,n,_,rfl,_,_,R,_,z,f,_⟩
 .exact⟨none,0,[],rfl,λi x K=>by simp at K⟩
 .rw[hc] at f;have L:0<m->v=none:=λM=>by
   have hE:=f 0 M;rw[fD aa] at hE;simp only[Option.bind_eq_some_iff] at hE;obtain⟨c,g, -⟩:=hE;obtain⟨-,B,p⟩:=World.cells?_some g;have C:=p 0 E;rw[fD aa] at C;obtain⟨S,T,e⟩:=a9z C;simp[Addr.add] at e;exact e.2.2
  obtain⟨l,q,hP⟩:=X4 (α:=α) (P:=λi y=>v=none/\Q b (off+i*k) y) m (λi N=>by
   have hE:=f i N;obtain⟨y,r⟩:∃y,a[i]? =some y:=⟨a[i],fD aa⟩;rw[r] at hE;simp only[Option.bind_eq_some_iff] at hE;obtain⟨c,g,s⟩:=hE;obtain⟨-,B,p⟩:=World.cells?_some g;obtain rfl:=L aa;obtain⟨y,u⟩:=J n b (off+i*k) c _ B (λj O=>by rw[<- p j O];simp only[Addr.add];repeat' split<;>simp_all) s;exact⟨y,rfl,u⟩)
  exact⟨_,d,l,by rw[q],λi y r=>by
   obtain⟨rfl,u⟩:=hP i y r;exact⟨b,off,rfl,u⟩⟩
theorem Dr {fuel:Nat}{c:ax}{x:DataW H×List MemPlace}(h:DataW.trod enc prog w A D I fuel 9 [c]=some x):∃s,c=.string s:=by
 obtain⟨s,a, -⟩:=DataW.trod_string underlying9 h;exact⟨s,by simpa using a⟩
theorem Wm {fuel:Nat}{cs:List ax}{x:DataW H×List MemPlace}(h:DataW.trod enc prog w A D I fuel 35 cs=some x):∃o c l,cs=[.slice o l.length c]/\JA w o l:=by
 obtain⟨o,c,l,d,e⟩:=Mm (α:=Int) (k:=1) aC underlying35 aA (Q:=λb a y=>w.cell? (aJ b a)=some (ag y)) (λn b a cs x q f g=>by
  obtain⟨y,rfl, -⟩:=DataW.trod_int underlying3 g;exact⟨y,f 0 aC⟩) h
 refine⟨o,c,l,d,λi y j=>?_⟩;obtain⟨b,a,m,p⟩:=e i y j;exact⟨b,a,m,by rw[<- Nat.mul_one i];exact p⟩
theorem a0O {t:TypeId}{b c d e:Field}{fuel:Nat}{cs:List ax}{x:DataW H×List MemPlace}{P:Program}(g:P.underlying t=some (.struct #[b,c,d,e]))(h:DataW.trod enc P w A D I fuel t cs=some x):
  ∃n,let R:=λ(f:Field)=>∃y,DataW.trod enc P w A D I n f.type ((cs.drop f.offset).take (P.cellsOf f.type))=some y
   R b/\R c/\R d/\R e:=by
 obtain⟨i,n, -, -, -,j,a⟩:=DataW.trod_struct g h
 match i,j with
 |[y0,y1,y2,y3],_=>exact⟨n,⟨y0,a 0 b rfl⟩,⟨y1,a 1 c rfl⟩,⟨y2,a 2 d rfl⟩,y3,a 3 e rfl⟩
theorem a0P {fuel:Nat}{cs:List ax}{x:DataW H×List MemPlace}(h:DataW.trod enc prog w A D I fuel 34 cs=some x):∃o a l,cs=[.slice o l.length a]/\a5A w o l:=
 Mm (α:=Ln) (k:=4) aC underlying34 aA (Q:=λb i (x:Ln)=>w.cell? (aJ b i)=some (.string x.a)/\w.cell? (aJ b (i+1))=some (.slice x.o x.ns.length x.k)/\w.cell? (aJ b (i+2))=some (.string x.nm)/\w.cell? (aJ b (i+3))=some (.string x.tx)/\JA w x.o x.ns) (λn b r cs x s d t=>by
  obtain⟨e,c,f,g,rfl⟩:∃e c f g,cs=[e,c,f,g]:=by
   match cs,s with
   |[e,c,f,g],_=>exact⟨e,c,f,g,rfl⟩
  obtain⟨n,⟨_,j⟩,⟨_,m⟩,⟨_,p⟩,_,q⟩:=a0O underlying37 t;simp only[Qk,show prog.cellsOf 35=1 by kernel_rfl] at j m p q;obtain⟨u,rfl⟩:=Dr j;obtain⟨o,a,l,v,y⟩:=Wm m;obtain⟨z,rfl⟩:=Dr p;obtain⟨B,rfl⟩:=Dr q;obtain rfl:c=.slice o l.length a:=List.singleton_inj.1 v;exact⟨⟨u,o,l,a,z,B⟩,d 0 aC,d 1 aC,d 2 aC,d 3 aC,y⟩) h
end
theorem a5D:prog.readableRec 34=true:=aA
theorem a9A:Kids prog (InBook prog 34):=kids_book aA a5D
theorem ahM:InBook prog 34 34:=⟨of_decide_eq_true aA,book_self _⟩
theorem a5E {H:Type}{enc:TypeId×ax->H}{w:ai}{r:Reach}{j c:Nat}{b:Nat->Bool}{e:Bool}{v:ax}{d:DataW H}{p:List MemPlace}
  (k:Value.okWide prog w r j 34 v) (h:DataW.Trod enc prog w c b e 34 v d p):
  ∃o l f,v=.slice o l.length f/\a5A w o l:=by
 obtain⟨a,m,f,rfl⟩:=okWide_slice underlying34 k;obtain⟨i,n⟩:=h;obtain⟨o,g,l,q,s⟩:=a0P n;exact⟨o,l,g,by simpa[Value.cells] using q,s⟩
theorem a0Q {H:Type}{enc:TypeId×ax->H}{W a:ai}{b:Nat->Bool}{v:ax}{d:DataW H}{p:List MemPlace}(c:aD W a)
  (h:DataW.Trod enc prog W 0 (λ_=>true) true 34 v d p) (hs:∀x∈p,b x.block=true) (f:∀x∈p,x.block<W.heap.size):DataW.Trod enc prog a 0 b true 34 v d p:=by
 obtain⟨n,g⟩:=DataW.Trod.respare a9A (λt e i j=>book_sized a5D i j) ahM h hs;exact⟨n,DataW.trod_carry n _ _ _ g (λx k=>c.same (f x k))⟩
