import Derived.Test.YtbkjmamcnflncaaGreatDoorQs25
namespace Go.Proofs.YtbkjmamcnflncaaGreatDoor
open Go.Proofs.Tryz
set_option maxHeartbeats 16000000
variable{A d:Nat}{C:List au}
section
open Go.RowKit
set_option maxRecDepth 20000
def xB (l:List Qt)(k:Nat):Prop:=∀a∈l.take k,fH a.xn a.xd=0/\fH a.yn a.yd=0
theorem QK (l:List Qt)(f:Qt->Bool)(k:Nat)(a:Qt)(h:l[k]? =some a):(l.take (k+1)).any f=((l.take k).any f||f a):=by
 rw[dS,h];simp
theorem xB.snoc {l:List Qt}{k:Nat}{a:Qt}(h:xB l k)(d:l[k]? =some a)(e:fH a.xn a.xd=0)(f:fH a.yn a.yd=0):xB l (k+1):=λb c=>by
 rw[dS,d] at c;rcases gT.1 c with c|c
 .exact h b c
 .grind
theorem Du {l:List Qt}{y:Int}{a:Qt}(b:a∈l)(h:¬(fH a.xn a.xd=0/\fH a.yn a.yd=0)):bA l y=false:=by
 unfold bA;grind
theorem UI {l:List Qt}{y:Int}(c:¬y< -1073741824)(d:¬1073741824<=y)(h:xB l l.length):bA l y=(X3 l y && MP l y):=by
 unfold bA;rw[if_neg aa];have:l.all (λa=>decide (fH a.xn a.xd=0) && decide (fH a.yn a.yd=0))=true:=by
  rw[List.all_eq_true];intro a b;have:=h a (by rw[gq];exact b);simp[this]
 rw[this];rfl
theorem jY.box (w:ah)(x:P5)(t:TypeId):UF (w.alloc (ai (Al x) t)) w.heap.size 0 x/\aD w (w.alloc (ai (Al x) t)):=⟨UF.new w x t,bZ w _⟩
theorem Dv (aB aS aZ:Addr)(x:P5)(y:Int)(w:ah)(hl:x.s.pts.length<=1000)(h:iw w x.o x.s.pts)(hE:E3 aB aS aZ w):
  aJ 126 #[p5V x,ag y] w λe W=>e=ax (.bool (bA x.s.pts y))/\aD w W:=by
 obtain⟨S,q⟩:=jY.box w x 115;by_cases h1:y< -1073741824
 .have o:bA x.s.pts y=false:=by unfold bA;rw[if_pos (.inl h1)]
  rw[o];go_enter func126,ntmps126;go_wp2;go_ret;exact⟨rfl,q⟩
 by_cases h2:1073741824<=y
 .have o:bA x.s.pts y=false:=by unfold bA;rw[if_pos (.inr h2)]
  rw[o];go_enter func126,ntmps126;go_wp2;go_ret;exact⟨rfl,q⟩
 obtain⟨T,N⟩:∃T,bA x.s.pts y=T:=⟨_,rfl⟩;rw[N];have O:=aA N;clear N;go_enter func126,ntmps126;go_upto_region 1 with fail;obtain⟨U,L⟩:∃U,w.alloc (ai (Al x) 115)=U:=⟨_,rfl⟩;rw[L] at S q⊢;clear L;have L:=h.below q ay;have Sv:=hE.below q ay;obtain⟨c0,c1,c2,c3,c4⟩:=S;go_wp2_with fail;clear c0 c1 c2 c3 c4
 go_loopw [5,6,20] (λu v i wr=>∃k:Nat,k<=x.s.pts.length/\i=ag k/\u=.bool ((x.s.pts.take k).any λa=>decide (oz y a.yn a.yd<=0))/\v=.bool ((x.s.pts.take k).any λa=>decide (0<=oz y a.yn a.yd))/\xB x.s.pts k/\aD U wr) (λ_ _ i _=>x.s.pts.length-(intOf i).toNat)
 case atStart=>exact⟨0,bf _,rfl,rfl,rfl,(λa p=>by simp at p),aQ _ _⟩
 case round=>
  obtain⟨k,hk,rfl,rfl,rfl,j,z⟩:=hrel;by_cases P:k<x.s.pts.length
  .have X:(k:Int)<(x.s.pts.length:Int):=aa;obtain⟨a,p⟩:∃a,x.s.pts[k]? =some a:=⟨_,eZ P⟩;obtain⟨b,a4,ho,q0,q1,q2,q3,r⟩:=L.below z ay k a p;rw[ho];have F:=Sv.below z ay;have B:=Four.new wr (ag a.xn) (ag a.xd) (ag a.yn) (ag a.yd) 233;have s:=bZ wr (ai #[ag a.xn,ag a.xd,ag a.yn,ag a.yd] 233);have C:=λV (Q:aD wr V)=>kI aB aS aZ a.xn a.xd V r.xn r.xd (F.below Q ay);have H:=λV (Q:aD wr V)=>kI aB aS aZ a.yn a.yd V r.yn r.yd (F.below Q ay);have t:a∈x.s.pts:=gN p;obtain⟨f0,f1,f2,f3⟩:=id B;by_cases D:fH a.xn a.xd=0
   .rw[D,vG] at C;by_cases E:fH a.yn a.yd=0
    .rw[E,vG] at H;have R:=λV=>MR y a.yn a.yd V aa aa E;have c:Hid (xB x.s.pts (k+1)):=j.snoc p D E;have f:Hid ((x.s.pts.take (k+1)).any (λa=>decide (oz y a.yn a.yd<=0))=((x.s.pts.take k).any (λa=>decide (oz y a.yn a.yd<=0))||decide (oz y a.yn a.yd<=0))):=QK _ _ k a p;have g:Hid ((x.s.pts.take (k+1)).any (λa=>decide (0<=oz y a.yn a.yd))=((x.s.pts.take k).any (λa=>decide (0<=oz y a.yn a.yd))||decide (0<=oz y a.yn a.yd))):=QK _ _ k a p;clear j D E p;generalize oz y a.yn a.yd=M at R f g;generalize (x.s.pts.take k).any (λa=>decide (oz y a.yn a.yd<=0))=I at f⊢;generalize (x.s.pts.take k).any (λa=>decide (0<=oz y a.yn a.yd))=A at g⊢;go_upto_region 10 with(first|(go_at_call 186;refine(R _).mono ?_;rintro e w4 ⟨rfl,Y⟩)|(go_at_call_of 185 a.yn;refine(H _ (aN s m)).mono ?_;rintro e w3 ⟨rfl,J⟩;obtain⟨k0,k1,k2,k3⟩:=(B.below m ay).below J ay)|(go_at_call_of 185 a.xn;refine(C _ s).mono ?_;rintro e Z ⟨rfl,m⟩;obtain⟨g0,g1,g2,g3⟩:=B.below m ay));have n:=aN z (aN (aN (aN s m) J) Y);clear B s m J Y f0 f1 f2 f3 C H R;by_cases l:M<=0
     .by_cases d:0<=M
      .cases I with
       |true=>
        cases A with
        |true=>
         go_wp2_with fail
         go_roundw
         case rel=>exact⟨k+1,aa,aG,by rw[f.out];simp,by rw[g.out];simp,c.out,n⟩
         case measure=>simp[intOf];omega
        |false=>
         go_wp2_with fail
         go_roundw
         case rel=>exact⟨k+1,aa,aG,by rw[f.out];simp,by rw[g.out];simp[d],c.out,n⟩
         case measure=>simp[intOf];omega
       |false=>
        cases A with
        |true=>
         go_wp2_with fail
         go_roundw
         case rel=>exact⟨k+1,aa,aG,by rw[f.out];simp[l],by rw[g.out];simp,c.out,n⟩
         case measure=>simp[intOf];omega
        |false=>
         go_wp2_with fail
         go_roundw
         case rel=>exact⟨k+1,aa,aG,by rw[f.out];simp[l],by rw[g.out];simp[d],c.out,n⟩
         case measure=>simp[intOf];omega
      .cases I with
       |true=>
        cases A with
        |true=>
         go_wp2_with fail
         go_roundw
         case rel=>exact⟨k+1,aa,aG,by rw[f.out];simp,by rw[g.out];simp,c.out,n⟩
         case measure=>simp[intOf];omega
        |false=>
         go_wp2_with fail
         go_roundw
         case rel=>exact⟨k+1,aa,aG,by rw[f.out];simp,by rw[g.out];simp[d],c.out,n⟩
         case measure=>simp[intOf];omega
       |false=>
        cases A with
        |true=>
         go_wp2_with fail
         go_roundw
         case rel=>exact⟨k+1,aa,aG,by rw[f.out];simp[l],by rw[g.out];simp,c.out,n⟩
         case measure=>simp[intOf];omega
        |false=>
         go_wp2_with fail
         go_roundw
         case rel=>exact⟨k+1,aa,aG,by rw[f.out];simp[l],by rw[g.out];simp[d],c.out,n⟩
         case measure=>simp[intOf];omega
     .by_cases d:0<=M
      .cases I with
       |true=>
        cases A with
        |true=>
         go_wp2_with fail
         go_roundw
         case rel=>exact⟨k+1,aa,aG,by rw[f.out];simp,by rw[g.out];simp,c.out,n⟩
         case measure=>simp[intOf];omega
        |false=>
         go_wp2_with fail
         go_roundw
         case rel=>exact⟨k+1,aa,aG,by rw[f.out];simp,by rw[g.out];simp[d],c.out,n⟩
         case measure=>simp[intOf];omega
       |false=>
        cases A with
        |true=>
         go_wp2_with fail
         go_roundw
         case rel=>exact⟨k+1,aa,aG,by rw[f.out];simp[l],by rw[g.out];simp,c.out,n⟩
         case measure=>simp[intOf];omega
        |false=>
         go_wp2_with fail
         go_roundw
         case rel=>exact⟨k+1,aa,aG,by rw[f.out];simp[l],by rw[g.out];simp[d],c.out,n⟩
         case measure=>simp[intOf];omega
      .exact absurd (show 0<=M by omega) d
    .obtain⟨ad,K⟩:=jk aB aS aZ (show fH a.yn a.yd=2\/fH a.yn a.yd=3 by have:=gZ a.yn a.yd;omega);rw[K] at H;have o:T=false:=O.out.symm.trans (Du t (λh=>E h.2));subst o;clear K j p D E;go_wp2_with(first|(go_at_call_of 185 a.yn;refine(H _ (aN s m)).mono ?_;rintro e w3 ⟨rfl,J⟩)|(go_at_call_of 185 a.xn;refine(C _ s).mono ?_;rintro e Z ⟨rfl,m⟩;obtain⟨g0,g1,g2,g3⟩:=B.below m ay));go_ret;exact⟨rfl,aN q (aN z (aN (aN s m) J))⟩
   .obtain⟨ad,K⟩:=jk aB aS aZ (show fH a.xn a.xd=2\/fH a.xn a.xd=3 by have:=gZ a.xn a.xd;omega);rw[K] at C;have o:T=false:=O.out.symm.trans (Du t (λh=>D h.1));subst o;clear K j p D;go_wp2_with(first|(go_at_call_of 185 a.xn;refine(C _ s).mono ?_;rintro e Z ⟨rfl,m⟩;obtain⟨g0,g1,g2,g3⟩:=B.below m ay));go_ret;exact⟨rfl,aN q (aN z (aN s m))⟩
  .obtain rfl:k=x.s.pts.length:=aa;have o:T=(X3 x.s.pts y && MP x.s.pts y):=O.out.symm.trans (UI aa aa j);unfold X3 MP at o;rw[gq];have c:=aA o;clear o j;generalize x.s.pts.any (λa=>decide (oz y a.yn a.yd<=0))=I at c⊢;generalize x.s.pts.any (λa=>decide (0<=oz y a.yn a.yd))=A at c⊢;cases I with
   |true=>
    go_wp2_with fail;go_ret;exact⟨by rw[c.out];rfl,aN q z⟩
   |false=>
    go_wp2_with fail;go_ret;exact⟨by rw[c.out];rfl,aN q z⟩
end
open Go.RowKit
def cells5:List P5->List au
 |[]=>[]
 |a::r=>ag a.nd::aj a.o a.s.pts.length a.cap::ak a.s.fill::ak a.s.rule::ag a.lv::cells5 r
theorem Hu:∀l:List P5,(cells5 l).length=l.length*5
 |[]=>rfl
 |x::r=>by simp[cells5,Hu r];omega
theorem yZ:∀(l:List P5) (i:Nat) (x:P5),l[i]? =some x->(cells5 l)[i*5]? =some (ag x.nd)/\(cells5 l)[i*5+1]? =some (aj x.o x.s.pts.length x.cap)/\(cells5 l)[i*5+2]? =some (ak x.s.fill)/\(cells5 l)[i*5+3]? =some (ak x.s.rule)/\(cells5 l)[i*5+4]? =some (ag x.lv)
 |[],i,x,h=>by simp at h
 |y::r,0,x,h=>by simp at h;subst h;exact⟨rfl,rfl,rfl,rfl,rfl⟩
 |y::r,i+1,x,h=>by
  have a:=yZ r i x (by simpa using h);have e:(i+1)*5=i*5+5:=aa;rw[e];exact a
theorem za:∀(l:List P5) (j:Nat) (u:au),(cells5 l)[j]? =some u->∃i x,l[i]? =some x/\((j=i*5/\u=ag x.nd)\/(j=i*5+1/\u=aj x.o x.s.pts.length x.cap)\/(j=i*5+2/\u=ak x.s.fill)\/(j=i*5+3/\u=ak x.s.rule)\/(j=i*5+4/\u=ag x.lv))
 |[],j,u,h=>by simp[cells5] at h
 |x::r,0,u,h=>by simp[cells5] at h;exact⟨0,x,rfl,.inl ⟨rfl,h.symm⟩⟩
 |x::r,1,u,h=>by simp[cells5] at h;exact⟨0,x,rfl,.inr (.inl ⟨rfl,h.symm⟩)⟩
 |x::r,2,u,h=>by simp[cells5] at h;exact⟨0,x,rfl,.inr (.inr (.inl ⟨rfl,h.symm⟩))⟩
 |x::r,3,u,h=>by simp[cells5] at h;exact⟨0,x,rfl,.inr (.inr (.inr (.inl ⟨rfl,h.symm⟩)))⟩
 |x::r,4,u,h=>by simp[cells5] at h;exact⟨0,x,rfl,.inr (.inr (.inr (.inr ⟨rfl,h.symm⟩)))⟩
 |x::r,j+5,u,h=>by
  have a:(cells5 r)[j]? =some u:=by simpa[cells5] using h
  obtain⟨i,y,b,c⟩:=za r j u a;refine⟨i+1,y,by simpa using b,?_⟩;grind
theorem UJ (l:List P5):∀u∈cells5 l,u.oneCell'=true:=λu a=>by
 obtain⟨j,b⟩:=List.getElem?_of_mem a;obtain⟨i,x, -,⟨-,rfl⟩|⟨-,rfl⟩|⟨-,rfl⟩|⟨-,rfl⟩|⟨-,rfl⟩⟩:=za l j u b<;>rfl
theorem QL {w:ah}{a:Addr}{l:List P5}(h:jY w (some a) l):∀j u,(cells5 l)[j]? =some u->w.cell? (a.add j)=some u:=λj u c=>by
 obtain⟨i,x,d,g⟩:=za l j u c;obtain⟨b,e,f,k,m,n,o,p⟩:=h i x d;cases f;rw[addr_add];grind
def Own5 (w:ah)(A:Nat)(v:au)(l:List P5):Prop:=w.ownsRow A 115 5 v l.length (cells5 l)
structure E9 (w:ah)(o:Option Addr)(cap:Nat)(l:List P5):Prop where
 at_:jY w o l
 le:l.length<=cap
 no:o=none->cap=0
theorem E9.below {w w':ah}{o:Option Addr}{a:Nat}{l:List P5}(h:E9 w o a l)(b:aD w w'):E9 w' o a l:=⟨h.at_.below b ay,h.le,h.no⟩
structure QM (w:ah)(b:Nat)(l:List P5):Prop where
 c:∀i x,l[i]? =some x->UF w b (i*5) x
 f:∀j,j<l.length*5->w.frozen? ⟨b,j,none⟩=false
theorem QM.at_ {w:ah}{b:Nat}{l:List P5}(h:QM w b l):jY w (some ⟨b,0,none⟩) l:=λi x a=>⟨b,0,rfl,by rw[fZ];exact h.c i x a⟩
theorem QM.below {w w':ah}{b:Nat}{l:List P5}(h:QM w b l)(a:aD w w')(c:b<w.heap.size):QM w' b l:=⟨λi x d=>(h.c i x d).below a ay,λj e=>(a.frozen (p:=⟨b,j,none⟩) c).trans (h.f j e)⟩
theorem Own5.rw {w:ah}{v:au}{l:List P5}(h:Own5 w A v l):(v=aj none 0 0/\l=[])\/∃b a,v=aj (some ⟨b,0,none⟩) l.length a/\A<=b/\b<w.heap.size/\l.length<=a/\QM w b l:=by
 have m:=h;rcases h.2 with⟨rfl,f⟩|⟨g,a,n,rfl,o,c,e,p,q⟩
 .grind
 .refine .inr ⟨g,a,rfl,o,(dZ.1 c).1,e,?_,?_⟩
  .intro i x r;have d:∀j u,(cells5 l)[j]? =some u->w.cell? (aH g j)=some u:=λj u k=>by
    have:=World.ownsRow.cells m (g:=g) rfl j u k;rw[addr_add,fZ] at this;exact this
   obtain⟨f,s,t,y,z⟩:=yZ l i x r;exact⟨d _ _ f,d _ _ s,d _ _ t,d _ _ y,d _ _ z⟩
  .intro j k;unfold World.frozen?;grind
theorem abl:(prog.info? 115).map (λi=>(i.zero,i.size,i.bytes))=some (some (.agg #[ag 0,aj none 0 0,ak ⟨#[]⟩,ak ⟨#[]⟩,ag 0]),5,72):=az
theorem QN (w:ah)(o:Option Addr)(b:Nat)(l:List P5)(h:E9 w o b l)(C:l.length<=1000):
  aJ 124 #[aj o l.length b] w λe w'=>∃v,e=ax v/\Own5 w' w.heap.size v l/\aD w w':=by
 have r:∀(w:ah) (a:Option Addr) (n c d f:Nat),(binOp .eql 84 (aj a n c) (aj none d f)).run prog w=.ok (.bool a.isNone) w:=λw a n c d f=>Lib.run_eql_slice_nil w _ _ a n c d f underlying84;obtain⟨s,t,g,i,m⟩:=info_parts abl;cases o with
 |none=>
  have D:=h.no rfl;have x:l=[]:=lS.1 (by have:=h.le;omega);subst x;go_enter func124,ntmps124;go_wp2_with fail;go_ret;exact⟨_,rfl,gp _ _ _ _,aQ _ _⟩
 |some a=>
  have y:Hid (∀j u,(cells5 l)[j]? =some u->(w.alloc (ai #[] 115)).cell? (a.add j)=some u):=λj u q=>((bZ w (ai #[] 115)).cell (aR (QL h.at_ j u q))).trans (QL h.at_ j u q);go_enter func124,ntmps124;go_wp2_with(at_builtin;refine wpList_append_own _ rfl _ _ 84 rfl w.heap.size 115 s (.agg #[ag 0,aj none 0 0,ak ⟨#[]⟩,ak ⟨#[]⟩,ag 0]) 5 72 underlying84 t g i m rfl aC _ _ _ rfl (World.ownsRow_made w #[] 0 ay (bf _) aG) a l.length b (cells5 l) rfl (Hu l) y.out (UJ l) (by simp only[maxLen];omega) aa aG ?_;intro E F z A _);go_ret;refine⟨_,rfl,?_,((aQ _ w).alloc ay _).grown A aG (λk B=>by have p:some w.heap.size=some k:=B;cases p;exact Nat.le_refl _)⟩;simpa[Own5] using z
set_option maxRecDepth 20000
abbrev rfV (a By:Nat):au:=.func (.func a) #[] #[aI By]
def a7h (A a By:Nat)(w:ah)(l:List P5)(q:P5->Bool):Prop:=∀x∈l,∀V,Below A w V->aJ a #[p5V x,aI By] V λe W=>e=ax (.bool (q x))/\aD V W
theorem UK (aB aS aZ:Addr)(x:P5)(y:Int)(By:Nat)(w:ah)(c:x.s.pts.length<=1000)(h:iw w x.o x.s.pts)(hE:E3 aB aS aZ w)(b:w.cell? (aH By 0)=some (ag y)):
  aJ 125 #[p5V x,aI By] w λe W=>e=ax (.bool (!bA x.s.pts y))/\aD w W:=by
 have a:=bZ w (ai (Al x) 115);have d:=Dv aB aS aZ x y (w.alloc (ai (Al x) 115)) c (h.below a ay) (hE.below a ay);have f:=(a.cell (aR b)).trans b;go_enter func125,ntmps125;go_wp2_with(go_at_call 126;refine d.mono ?_;rintro e i ⟨rfl,g⟩);go_ret;exact⟨rfl,aN a g⟩
def akk (q:P5->Bool)(l:List P5)(e:Ending):Prop:=((∀x∈l,q x=false)/\e=ax (ag (-1)))\/∃k x,l[k]? =some x/\(∀y∈l.take k,q y=false)/\q x=true/\e=ax (ag (k:Nat))
theorem QO (A m By:Nat)(D:∀(z:Array au) (w:ah),Sem.run prog (callFunc m z) w=.ok (.enter m z) w)(q:P5->Bool)(l:List P5)(o:Option Addr)(s:Nat)(w0 w:ah)(K:l.length<=1000)(h:jY w o l)(t:Below A w0 w)(d:A<=w.heap.size)(E:a7h A m By w0 l q):
  aJ 184 #[aj o l.length s,rfV m By] w λe W=>akk q l e/\aD w W:=by
 go_enter func184,ntmps184;go_wp2
 go_loopw [8] (λi wr=>∃k:Nat,k<=l.length/\i=ag k/\(∀x∈l.take k,q x=false)/\aD w wr) (λi _=>l.length-(intOf i).toNat)
 case atStart=>exact⟨0,bf _,rfl,(λa F=>by simp at F),aQ _ _⟩
 case round=>
  obtain⟨k,L,rfl,c,g⟩:=hrel;by_cases u:k<l.length
  .have B:(k:Int)<(l.length:Int):=aa;obtain⟨x,n⟩:∃x,l[k]? =some x:=⟨_,eZ u⟩;have j:x∈l:=gN n;obtain⟨b,H,rfl,I⟩:=h.below g ay k x n;have p:=E x j wr (t.trans (g.mono d));obtain⟨M,N,O,P,Q⟩:=I;have C:=aA n;clear n;cases r:q x with
   |false=>
    rw[r] at p;go_wp2_with(refine p.mono ?_;rintro e J ⟨rfl,v⟩)
    go_roundw
    case rel=>exact⟨k+1,aa,by go_num,λy f=>by rw[dS,C.out] at f;rcases gT.1 f with f|f;exact c y f;simp at f;subst f;exact r,aN g v⟩
    case measure=>simp[intOf];omega
   |true=>
    rw[r] at p;go_wp2_with(refine p.mono ?_;rintro e J ⟨rfl,v⟩);go_ret;exact⟨.inr ⟨k,x,C.out,c,r,rfl⟩,aN g v⟩
  .obtain rfl:k=l.length:=aa;go_wp2_with fail;go_ret;rw[gq] at c;exact⟨.inl ⟨c,rfl⟩,g⟩
theorem Jr (w:ah)(h:TypeId)(b o n c:Nat)(l:0<n)(hc:∀j,j<n*5->(w.cell? (aH b (o+j))).isSome=true)(k:∀j,j<n*5->w.frozen? ⟨b,o+j,none⟩=false):
  ∃vs:List au,vs.length=n*5/\(Builtin.clear_ #[84] h #[aj (some ⟨b,o,none⟩) n c]).run prog w=.ok (aF #[]) (w.setCells b o vs):=by
 have f:∀w,(zeroValue 115).run prog w=.ok (.agg #[ag 0,aj none 0 0,ak ⟨#[]⟩,ak ⟨#[]⟩,ag 0]) w:=λw=>az;have a:(Builtin.zeroCells (Value.agg #[ag 0,aj none 0 0,ak ⟨#[]⟩,ak ⟨#[]⟩,ag 0]).cells n).toList.length=n*5:=by
  simp[Builtin.zeroCells,Value.cells]
 refine⟨(Builtin.zeroCells (Value.agg #[ag 0,aj none 0 0,ak ⟨#[]⟩,ak ⟨#[]⟩,ag 0]).cells n).toList,a,?_⟩;have d:∀v∈(Builtin.zeroCells (Value.agg #[ag 0,aj none 0 0,ak ⟨#[]⟩,ak ⟨#[]⟩,ag 0]).cells n).toList,v.oneCell'=true:=by
  intro v f;simp only[Builtin.zeroCells,Value.cells,Array.toList_map,gu] at f;obtain⟨i, -,rfl⟩:=f;have g:i % 5<5:=Nat.mod_lt _ aC;show(#[Value.int .i64 0,aj none 0 0,ak ⟨#[]⟩,ak ⟨#[]⟩,ag 0][i % 5]!).oneCell'=true;generalize i % 5=j at g
  match j,g with
  |0,_=>rfl
  |1,_=>rfl
  |2,_=>rfl
  |3,_=>rfl
  |4,_=>rfl
 have e:=run_storeCells_cells (P:=prog) b o (Builtin.zeroCells (Value.agg #[ag 0,aj none 0 0,ak ⟨#[]⟩,ak ⟨#[]⟩,ag 0]).cells n).toList 0 w (by rw[a];simpa using hc) (by rw[a];simpa using k) d;simp only[Nat.add_zero] at e;obtain⟨m,rfl⟩:∃m,n=m+1:=⟨n-1,aa⟩;simp[Builtin.clear_,run_underlying underlying84,f,e]
theorem iR {B b:Nat}{a:ah}(c:B<=b):∀(vs:List au) (o:Nat) (w:ah),Below B a w->Below B a (w.setCells b o vs)
 |[],_,_,h=>h
 |_::vs,_,_,h=>iR c vs _ _ (h.setCell c _)
abbrev a2W (w:ah)(b o:Nat)(x:P5):ah:=((((w.setCell ⟨b,o,none⟩ (ag x.nd)).setCell ⟨b,o+1,none⟩ (aj x.o x.s.pts.length x.cap)).setCell ⟨b,o+2,none⟩ (ak x.s.fill)).setCell ⟨b,o+3,none⟩ (ak x.s.rule)).setCell ⟨b,o+4,none⟩ (ag x.lv)
theorem X4 (w:ah)(b o:Nat)(x:P5):a2W w b o x=w.setCells b o [ag x.nd,aj x.o x.s.pts.length x.cap,ak x.s.fill,ak x.s.rule,ag x.lv]:=rfl
theorem QM.set {w:ah}{b:Nat}{l:List P5}(h:QM w b l){i:Nat}(hi:i<l.length)(x:P5):QM (a2W w b (i*5) x) b (l.set i x):=by
 rw[X4];have a:=h.c i l[i] (eZ hi);have c:=World.cell?_setCells_in b [ag x.nd,aj x.o x.s.pts.length x.cap,ak x.s.fill,ak x.s.rule,ag x.lv] (i*5) w (λj f=>by
  have m:j<5:=f
  match j,m with
  |0,_=>rw[Nat.add_zero,a.c0];rfl
  |1,_=>rw[a.c1];rfl
  |2,_=>rw[a.c2];rfl
  |3,_=>rw[a.c3];rfl
  |4,_=>rw[a.c4];rfl)
 refine⟨λk y g=>?_,λj f=>?_⟩
 .by_cases e:k=i
  .subst e;rw[List.getElem?_set_self hi] at g;cases g;exact⟨c 0 aG,c 1 aG,c 2 aG,c 3 aG,c 4 aG⟩
  .rw[List.getElem?_set_ne (λh=>e h.symm)] at g;obtain⟨n,o,p,q,r⟩:=h.c k y g;have d:∀j,j<5->(w.setCells b (i*5) [ag x.nd,aj x.o x.s.pts.length x.cap,ak x.s.fill,ak x.s.rule,ag x.lv]).cell? (aH b (k*5+j))=w.cell? (aH b (k*5+j)):=λj f=>World.cell?_setCells_out b _ _ w ⟨b,k*5+j,none⟩ (λ_ _=>by
    show k*5+j<i*5\/i*5+5<=k*5+j;omega)
   exact⟨(d 0 aC).trans n,(d 1 aC).trans o,(d 2 aC).trans p,(d 3 aC).trans q,(d 4 aC).trans r⟩
 .rw[World.frozen?_setCells];exact h.f j (by rw[List.length_set] at f;exact f)
theorem QM.setCells {w:ah}{b:Nat}{l:List P5}(h:QM w b l)(i:Nat)(vs:List au):QM (w.setCells b (i*5) vs) b (l.take i):=⟨λk y c=>by
  rw[AV] at c;split at c
  .rename_i e;obtain⟨f,g,m,n,o⟩:=h.c k y c;have a:∀j,j<5->(w.setCells b (i*5) vs).cell? (aH b (k*5+j))=w.cell? (aH b (k*5+j)):=λj d=>World.cell?_setCells_out b _ _ w ⟨b,k*5+j,none⟩ (λ_ _=>.inl (by
    show k*5+j<i*5;omega))
   exact⟨(a 0 aC).trans f,(a 1 aC).trans g,(a 2 aC).trans m,(a 3 aC).trans n,(a 4 aC).trans o⟩
  .exact absurd c aG,λj d=>by
  rw[World.frozen?_setCells];exact h.f j (by rw[iV] at d;omega)⟩
structure Js (q:P5->Bool)(l:List P5)(b base:Nat)(w0:ah)(i j:Nat)(l':List P5)(w:ah):Prop where
 len:l'.length=l.length
 lt:i<j
 le:j<=l.length
 kept:l'.take i=(l.take j).filter λx=> !q x
 rest:l'.drop j=l.drop j
 row:QM w b l'
 Eb:Below base w0 w
 sz:b<w.heap.size
theorem filter_none {q:P5->Bool}{l:List P5}(h:∀x∈l,q x=false):(l.filter λx=> !q x)=l:=List.filter_eq_self.2 (λx a=>by rw[h x a];rfl)
theorem Js.skip {q:P5->Bool}{l:List P5}{b:Nat}{w0:ah}{i j:Nat}{d:List P5}{w w':ah}{x:P5}(h:Js q l b A w0 i j d w)(e:l[j]? =some x)(f:q x=true)(c:aD w w')(a:A<=w.heap.size):Js q l b A w0 i (j+1) d w':=by
 have g:j<l.length:=(kQ.1 e).1;refine⟨h.len,by have:=h.lt;omega,g,?_,?_,h.row.below c h.sz,h.Eb.trans (c.mono a),dP h.sz c.size⟩
 .rw[h.kept,dS,e,List.filter_append];simp[f]
 .rw[<- mP,h.rest,mP]
theorem Js.keep {q:P5->Bool}{l:List P5}{b:Nat}{w0:ah}{i j:Nat}{c:List P5}{w w':ah}{x:P5}(h:Js q l b A w0 i j c w)(g:l[j]? =some x)(m:q x=false)(d:aD w w')(a:A<=w.heap.size)(e:A<=b):Js q l b A w0 (i+1) (j+1) (c.set i x) (a2W w' b (i*5) x):=by
 have n:j<l.length:=(kQ.1 g).1;have k:i<c.length:=by have:=h.lt;have:=h.le;rw[h.len];omega
 have f:=h.Eb.trans (d.mono a);refine⟨by rw[List.length_set,h.len],by have:=h.lt;omega,n,?_,?_,(h.row.below d h.sz).set k x,?_,?_⟩
 .rw[dS,List.take_set_of_le ay,h.kept,List.getElem?_set_self k,dS,g,List.filter_append];simp[m]
 .rw[List.drop_set_of_lt (by have:=h.lt;omega),<- mP,h.rest,mP]
 .rw[X4];exact iR e _ _ _ f
 .have:(a2W w' b (i*5) x).heap.size=w'.heap.size:=by simp[a2W]
  rw[this];exact dP h.sz d.size
theorem Js.start {q:P5->Bool}{l:List P5}{b:Nat}{w0 w:ah}{k:Nat}{x:P5}(d:QM w b l)(e:Below A w0 w)(hs:b<w.heap.size)(c:l[k]? =some x)(a:∀y∈l.take k,q y=false)(f:q x=true):Js q l b A w0 k (k+1) l w:=by
 have g:k<l.length:=(kQ.1 c).1;refine⟨rfl,aa,g,?_,rfl,d,e,hs⟩;rw[dS,c,List.filter_append,filter_none a];simp[f]
theorem KN (A L By:Nat)(Z:∀(av:Array au) (w:ah),Sem.run prog (callFunc L av) w=.ok (.enter L av) w)(q:P5->Bool)(l:List P5)(b c:Nat)(w0 w:ah)(hl:l.length<=1000)(M:QM w b l)(N:A<=b)(O:b<w.heap.size)(b4:l.length<=c)(P:Below A w0 w)(hq:a7h A L By w0 l q):
  aJ 123 #[aj (some ⟨b,0,none⟩) l.length c,rfV L By] w λe W=>e=ax (aj (some ⟨b,0,none⟩) (l.filter λx=> !q x).length c)/\QM W b (l.filter λx=> !q x)/\Below A w0 W/\b<W.heap.size:=by
 have g:A<=w.heap.size:=aa;have IX:=QO A L By Z q l (some ⟨b,0,none⟩) c w0 w hl M.at_ P g hq;go_enter func123,ntmps123;go_upto_region 2 with(go_at_call 184;refine IX.mono ?_;rintro e w1 ⟨Q,b1⟩;obtain⟨n,rfl,hn⟩:∃n:Int,e=ax (ag n)/\((∀x∈l,q x=false)/\n= -1\/∃(k:Nat) (x:P5),l[k]? =some x/\(∀y∈l.take k,q y=false)/\q x=true/\n=k):=(by rcases Q with⟨k1,k2⟩|⟨k,x,k1,k2,k3,k4⟩;exact⟨_,k2,.inl ⟨k1,rfl⟩⟩;exact⟨_,k4,.inr ⟨k,x,k1,k2,k3,rfl⟩⟩));clear Q IX;have t:=M.below b1 O;have B:=P.trans (b1.mono g);have C:=dP O b1.size;rcases hn with⟨d,rfl⟩|⟨k,x,s,d,D,rfl⟩
 .go_wp2_with fail;go_ret;rw[filter_none d];exact⟨rfl,t,B,C⟩
 .have D0:=Js.start t B C s d D;have hk:k<l.length:=(kQ.1 s).1;have b6:((k:Int)== -1)=false:=dL.2 aa;clear s d D t B C M;go_wp2_with fail
  go_loopw [5,6] (λu v wr=>∃(i j:Nat) (h:List P5),u=ag i/\v=ag j/\Js q l b A w0 i j h wr) (λ_ v _=>l.length-(intOf v).toNat)
  case atStart=>exact⟨k,k+1,l,rfl,by go_num,D0⟩
  case round=>
   obtain⟨i,j,h,rfl,rfl,a⟩:=hrel;have b7:=a.lt;have b8:=a.le;have E:A<=wr.heap.size:=by have:=a.sz;omega
   by_cases a4:j<l.length
   .have b5:(j:Int)<(l.length:Int):=aa;have b9:(i:Int)<(l.length:Int):=aa;obtain⟨x,s⟩:∃x,l[j]? =some x:=⟨_,eZ a4⟩;have R:x∈l:=gN s;have S:h[j]? =some x:=by
     have o:(h.drop j)[0]? =some x:=by rw[a.rest,List.getElem?_drop];exact s
     rw[List.getElem?_drop] at o;exact o
    have hC:=a.row.c j x S;have b2:=bZ wr (ai (Al x) 115);have X:=hq x R (wr.alloc (ai (Al x) 115)) (a.Eb.trans (b2.mono E));have C0:=UF.new wr x 115;obtain⟨c0,c1,c2,c3,c4⟩:=hC;have HX:=aA s;clear s S;cases D:q x with
    |true=>
     rw[D] at X;go_wp2_with(refine X.mono ?_;rintro e w2 ⟨rfl,Y⟩)
     go_roundw
     case rel=>exact⟨i,j+1,h,rfl,by go_num,a.skip HX.out D (aN b2 Y) E⟩
     case measure=>simp[intOf];omega
    |false=>
     rw[D] at X;have F:i<h.length:=by rw[a.len];omega
     have oi:=a.row.c i h[i] (eZ F);generalize h[i]=c5 at oi;have I:∀m,m<5->wr.frozen? ⟨b,i*5+m,none⟩=false:=λm hm=>a.row.f _ (by rw[a.len];omega);go_upto_region 9 with(refine X.mono ?_;rintro e w2 ⟨rfl,Y⟩);have H:=aN b2 Y;obtain⟨d0,d1,d2,d3,d4⟩:=C0.below Y ay;obtain⟨o0,o1,o2,o3,o4⟩:=oi.below H ay;have f0:=(H.frozen (p:=⟨b,i*5,none⟩) a.sz).trans (I 0 aC);have f1:=(H.frozen (p:=⟨b,i*5+1,none⟩) a.sz).trans (I 1 aC);have f2:=(H.frozen (p:=⟨b,i*5+2,none⟩) a.sz).trans (I 2 aC);have f3:=(H.frozen (p:=⟨b,i*5+3,none⟩) a.sz).trans (I 3 aC);have f4:=(H.frozen (p:=⟨b,i*5+4,none⟩) a.sz).trans (I 4 aC);have K:=a.keep HX.out D H E N;clear F c0 c1 c2 c3 c4 I;go_wp2_with fail
     go_roundw
     case rel=>exact⟨i+1,j+1,_,by go_num,by go_num,K⟩
     case measure=>simp[intOf];omega
   .obtain rfl:j=l.length:=aa;have a5:0<l.length-i:=aa;have T:=a.len;obtain⟨f,a6,c6⟩:∃f:List au,f.length=(l.length-i)*5/\∀J,(Builtin.clear_ #[84] J #[aj (some ⟨b,i*5,none⟩) (l.length-i) (c-i)]).run prog wr=.ok (aF #[]) (wr.setCells b (i*5) f):=by
     have a7:∀J,∃f:List au,f.length=(l.length-i)*5/\(Builtin.clear_ #[84] J #[aj (some ⟨b,i*5,none⟩) (l.length-i) (c-i)]).run prog wr=.ok (aF #[]) (wr.setCells b (i*5) f):=λJ=>Jr wr J b (i*5) (l.length-i) (c-i) a5 (λm hm=>by
      obtain⟨r,M⟩:∃r,i*5+m=r:=⟨_,rfl⟩;rw[M];have a8:r/5<h.length:=aa;obtain⟨c0,c1,c2,c3,c4⟩:=a.row.c (r/5) h[r/5] (eZ a8);have U:r % 5<5:=Nat.mod_lt _ aC;have er:r=r/5*5+r % 5:=aa;rw[er];generalize r % 5=z at U
      match z,U with
      |0,_=>rw[Nat.add_zero,c0];rfl
      |1,_=>rw[c1];rfl
      |2,_=>rw[c2];rfl
      |3,_=>rw[c3];rfl
      |4,_=>rw[c4];rfl) (λm hm=>a.row.f _ aa)
     obtain⟨f,o,h2⟩:=a7 0;exact⟨f,o,λJ=>h2⟩
    have c7:(i:Int)<(c:Int):=aa;have F:(i:Int)<(l.length:Int):=aa;have K:QM (wr.setCells b (i*5) f) b (l.filter λx=> !q x):=by
     have o:=a.row.setCells i f;rw[a.kept,gq] at o;exact o
    have V:(l.filter λx=> !q x).length=i:=by
     have o:=a.kept;rw[gq] at o;rw[<- o,iV];omega
    have HF:=aA V;have a9:=iR N f (i*5) wr a.Eb;have b0:b<(wr.setCells b (i*5) f).heap.size:=by
     have:=(iR ay f (i*5) wr (aQ b wr)).size;have:=a.sz;omega
    clear V a6 T;go_wp2_with fail;go_ret;exact⟨by rw[HF.out];rfl,K,a9,b0⟩
theorem a7i (aB aS aZ:Addr)(y:Int)(l:List P5)(w:ah)(By:Nat)(d:∀x∈l,x.s.pts.length<=1000)(hP:kT w l)(hE:E3 aB aS aZ w)(b:w.cell? (aH By 0)=some (ag y)):a7h w.heap.size 125 By w l (λx=> !bA x.s.pts y):=λx c V a=>
 UK aB aS aZ x y By V (d x c) ((hP x c).below a ay) (hE.below a ay) ((a.cell (aR b)).trans b)
theorem Zh (l:List P5)(y:Int):sP (l.filter λx=> !!bA x.s.pts y)=(sP l).filter λs=>bA s.pts y:=by
 induction l with
 |nil=>rfl
 |cons a l b=>
  grind
theorem KQ (a By:Nat)(b:∀(f:Array au) (w:ah),Sem.run prog (callFunc a f) w=.ok (.enter a f) w)(w:ah):aJ 123 #[aj none 0 0,rfV a By] w λe W=>e=ax (aj none 0 0)/\Below w.heap.size w W:=by
 have g:=QO w.heap.size a By b (λ_=>false) [] none 0 w w aG (λi x c=>by simp at c) (aQ _ _) ay (λx c=>by cases c);go_enter func123,ntmps123;go_upto_region 2 with(go_at_call 184;refine g.mono ?_;rintro e m ⟨d,h⟩;obtain rfl:e=ax (ag (-1)):=(by rcases d with⟨-,j⟩|⟨k,x,l, -⟩;exact j;simp at l));go_wp2_with fail;go_ret;exact⟨rfl,h⟩
def xL (f:Nat->aM)(n k:Nat):Array au:=((List.range n).map λx=>if x<k then Value.string (f x) else ak ⟨#[]⟩).toArray
theorem Am (f:Nat->aM)(n k i:Nat)(h:i<n):(xL f n k)[i]? =some (if i<k then Value.string (f i) else ak ⟨#[]⟩):=by
 unfold xL;grind
theorem pR (f:Nat->aM)(n k:Nat):(xL f n k).size=n:=by simp[xL]
theorem a2X (f:Nat->aM)(n k:Nat)(h:k<n):(xL f n k).setIfInBounds k (ak (f k))=xL f n (k+1):=by
 apply Array.ext_getElem?;intro i;by_cases a:i<n
 .rw[Am f n (k+1) i a];by_cases e:k=i
  .subst e;rw[Array.getElem?_setIfInBounds_self_of_lt (by rw[pR];exact h),if_pos aa]
  .rw[Array.getElem?_setIfInBounds_ne e,Am f n k i a];grind
 .rw[qd (by rw[Array.size_setIfInBounds,pR];omega),qd (by rw[pR];omega)]
theorem ag6 (f:Nat->aM)(n:Nat):madeCells (Value.string ⟨#[]⟩).cells n=xL f n 0:=by
 apply Array.ext_getElem?;intro i;by_cases a:i<n
 .rw[Am f n 0 i a,if_neg aa];simp[madeCells,Value.cells,a,Nat.mod_one]
 .rw[qd (by simp[madeCells];omega),qd (by rw[pR];omega)]
theorem MW:(prog.info? 9).map (λi=>(i.zero,i.size,i.bytes))=some (some (ak ⟨#[]⟩),1,16):=az
theorem Zi (f:Nat->aM)(n:Nat)(w:ah)(g:n<=100):(Instr.makeSlice 22 (ag (n:Int)) (ag (n:Int))).run prog w=.ok (aj (some ⟨w.heap.size,0,none⟩) n n) (w.alloc (ai (xL f n 0) 9)):=by
 obtain⟨d,e,b,a,c⟩:=info_parts MW;have:=run_makeSlice (P:=prog) (w:=w) 22 9 d (ak ⟨#[]⟩) underlying22 e b .i64 .i64 n n aa (Int.le_refl _) (by rw[a];omega) (by rw[c];omega) aa;rw[this,a,Int.toNat_natCast,Nat.mul_one,ag6 f n]
theorem Zj (f:Nat->aM)(n:Nat):(xL f n n).toList=((List.range n).map f).map ak:=by
 unfold xL;rw[List.map_map];apply List.map_congr_left;grind
theorem KS (aB aS aZ aV:Addr)(l:List P5)(o:Option Addr)(m n:Nat)(y:Int)(w:ah)(hn:n<=100)(J:0<=y)(K:y<=100)(L:l.length<=1000)(h:E9 w o m l)(hP:kT w l)(hk:∀x∈l,jU x.s)(hE:EP aB aS aZ aV w):
  aJ 75 #[aj o l.length m,ag n,ag y] w λe W=>∃v,e=ax v/\W.ownsRow w.heap.size 9 1 v n ((sH bA (sP l) n y).map ak)/\Below w.heap.size w W:=by
 have a:sH bA (sP l) n y=(List.range n).map λ(x:Nat)=>jT (sP (l.filter λx=> !!bA x.s.pts y)) (nu (x:Int) y):=by
  rw[Zh];rfl
 rw[a];clear a;obtain⟨c,p⟩:∃c,(l.filter λx=> !!bA x.s.pts y)=c:=⟨_,rfl⟩;rw[p];have j:=aA p;clear p;have t:=bZ w (ai #[ag y] 3);have f:=(kN w (ag y) 3).1;go_enter func75,ntmps75;go_upto_region 1 with fail;obtain⟨U,hU⟩:∃U,w.alloc (ai #[ag y] 3)=U:=⟨_,rfl⟩;rw[hU] at t f⊢;clear hU;have q:=hP.below t ay;have Sv:=hE.below t ay;have CL:=QN U o m l (h.below t) L
 go_cut [7] from 10 to 14 (λv wx=>∃E s,v=aj E c.length s/\jY wx E c/\Below U.heap.size U wx)
 case first=>
  go_wp2_with(go_at_call 124;refine CL.mono ?_;rintro e M ⟨v1,rfl,E5,N⟩);have b4:=q.below N ay;have O:∀x∈l,x.s.pts.length<=1000:=λx d=>by have:=(hk x d).1.1;omega
  have AR:=a7i aB aS aZ y l U w.heap.size O q Sv.e3 f;rcases E5.rw with⟨rfl,rfl⟩|⟨b,s,rfl,P,Q,S,T⟩
  .have DN:=KQ 125 w.heap.size (rT _ _ func125 az az) M;go_wp2_with(go_at_call 123;refine DN.mono ?_;rintro e X ⟨rfl,u⟩)
   go_meet
   exact⟨none,0,by rw[<- j.out];rfl,λi x d=>by rw[<- j.out] at d;simp at d,aN N u⟩
  .have DF:=KN U.heap.size 125 w.heap.size (rT _ _ func125 az az) (λx=> !bA x.s.pts y) l b s U M L T P Q S N AR;go_wp2_with(go_at_call 123;refine DF.mono ?_;rintro e X ⟨rfl,z,u, -⟩)
   go_meet
   exact⟨some ⟨b,0,none⟩,s,by rw[<- j.out];simp,by rw[<- j.out];exact z.at_,u⟩
 case rest=>
  obtain⟨E,s,rfl,Y,F⟩:=hcut;have a4:kT wc c:=λx d=>(q.below F ay) x (by rw[<- j.out] at d;exact(lU.1 d).1);have a5:∀x∈c,jU x.s:=λx d=>hk x (by rw[<- j.out] at d;exact(lU.1 d).1);have a6:c.length<=1000:=by rw[<- j.out];exact bu (List.length_filter_le _ _) L
  have a7:=Sv.below F ay;have g:=(F.cell (aR f)).trans f;clear j CL;have A:=aN t F;have MK:=Zi (λx=>jT (sP c) (nu (x:Int) y)) n wc hn;go_upto_region 3 with fail;have bM:=bZ wc (ai (xL (λx=>jT (sP c) (nu (x:Int) y)) n 0) 9);have rM:=eO wc (ai (xL (λx=>jT (sP c) (nu (x:Int) y)) n 0) 9);obtain⟨V,hV⟩:∃V,wc.alloc (ai (xL (λx=>jT (sP c) (nu (x:Int) y)) n 0) 9)=V:=⟨_,rfl⟩;obtain⟨R,H⟩:∃R,wc.heap.size=R:=⟨_,rfl⟩;have B:w.heap.size<=R:=by rw[<- H];exact A.size
  have a8:=(bM.cell (aR g)).trans g;rw[hV] at bM rM a8⊢;rw[H] at rM⊢;have HR:=aA H;clear hV MK H;go_wp2_with fail
  go_loopw [18] (λi wr=>∃k:Nat,k<=n/\i=ag k/\wr.heap[R]? =some (ai (xL (λx=>jT (sP c) (nu (x:Int) y)) n k) 9)/\Below R wc wr) (λi _=>n-(intOf i).toNat)
  case atStart=>exact⟨0,bf _,rfl,rM,by rw[<- HR.out];exact bM⟩
  case round=>
   obtain⟨k,b5,rfl,a,hb⟩:=hrel;by_cases C:k<n
   .have b3:(k:Int)<(n:Int):=aa;have D:Below wc.heap.size wc wr:=by rw[HR.out];exact hb
    have a9:R<wr.heap.size:=(dZ.1 a).1;obtain⟨ec,ip⟩:=a2T (x:=(k:Int)) (y:=y) aa aa J K;have CE:=Ho (k:Int) y wr aa aa aa aa;have bC:=KI (k:Int) y wr;have b6:=(D.cell (aR g)).trans g;obtain⟨Z,hZ⟩:∃Z,((wr.alloc (abf (k:Int) y)).alloc (Hl (k:Int))).alloc (Hl y)=Z:=⟨_,rfl⟩;rw[hZ] at CE bC;have r:=aN D bC;have SA:=QJ aB aS aZ aV c E s (nu (k:Int) y) Z a6 (Y.below r ay) (a4.below r ay) a5 ip ec (a7.below r ay);clear hZ;have HC:Hid (xL (λx=>jT (sP c) (nu (x:Int) y)) n (k+1)=(xL (λx=>jT (sP c) (nu (x:Int) y)) n k).setIfInBounds k (ak (jT (sP c) (nu (k:Int) y)))):=(a2X (λx=>jT (sP c) (nu (x:Int) y)) n k C).symm;have c0:wr.cell? (aH R k)=some (ak ⟨#[]⟩):=by
     simp only[World.cell?,a];rw[Am _ n k k C,if_neg (Nat.lt_irrefl k)];rfl
    have f0:wr.frozen? ⟨R,k,none⟩=false:=by
     unfold World.frozen?;rw[a];simp
    generalize jT (sP c) (nu (k:Int) y)=sh at SA HC;go_wp2_with(first|(go_at_call 127;refine SA.mono ?_;rintro e X ⟨rfl,u⟩;have I:=aN bC u;have c2:=(I.cell (aR c0)).trans c0;have f2:=(I.frozen (aR c0)).trans f0)|(go_at_call 128;refine CE.mono ?_;rintro e M ⟨rfl,rfl⟩))
    go_roundw
    case rel=>
     refine⟨k+1,aa,by go_num,?_,?_⟩
     .rw[HC.out];have:=heap_setCell_same X R k _ _ (ak sh) (((I.block R a9)).trans a);exact this
     .exact(hb.trans (I.mono aa)).setCell ay _
    case measure=>simp[intOf];omega
   .obtain rfl:k=n:=aa;go_wp2_with fail;go_ret;refine⟨_,rfl,⟨aG,.inr ⟨R,_,_,rfl,B,a,Nat.le_refl _,by simp only[maxLen];omega,by rw[pR,Nat.mul_one],?_⟩⟩,A.trans (hb.mono B)⟩;rw[Nat.mul_one,jg (by rw[Array.length_toList,pR];exact Nat.le_refl _)];exact Zj _ _
def nD (l:List P5):Prop:=∀x∈l,jU x.s
theorem Cc {l:List P5}(h:∃x∈l,¬jU x.s):¬nD l:=λa=>by
 obtain⟨x,b,c⟩:=h;exact c (a x b)
theorem abn (aB aS aZ j:Addr)(l:List P5)(o:Option Addr)(b n:Nat)(y:Int)(w:ah)(A:1<=n)(L:n<=40)(k:0<=y)(B:y<40)(t:l.length<=1000)(h:E9 w o b l)(hP:kT w l)(hE:EP aB aS aZ j w):
  aJ 149 #[aj o l.length b,ag n,ag y] w λe W=>((nD l/\∃v,e=ax (aF #[v,aU])/\W.ownsRow w.heap.size 9 1 v n ((sH bA (sP l) n y).map ak))\/(¬nD l/\∃a,e=ax (aF #[aj none 0 0,aP 67 (.pointer (some a))])))/\Below w.heap.size w W:=by
 have u:=yY (n:Int) w;rw[show decide (1<=(n:Int)/\(n:Int)<=40)=true from by simp;omega] at u;have C:=Zg aB aS aZ j l o b w t h.at_ hP hE;have m:=λV (d:Below w.heap.size w V) (D:nD l)=>KS aB aS aZ j l o b n y V aa k aa t (h.below d) (hP.below d ay) D (hE.below d ay);go_enter func149,ntmps149;go_upto_region 4 with(first|(go_at_call 73;refine u.mono ?_;rintro e x ⟨rfl,rfl⟩)|(go_at_call 74;refine C.mono ?_;rintro e x ⟨E,i⟩;obtain⟨v,rfl,d⟩:∃v,e=ax v/\((nD l/\v=aU)\/(¬nD l/\∃a,v=aP 67 (.pointer (some a)))):=(by rcases E with⟨p,q⟩|⟨p,a,q⟩;exact⟨_,q,.inl ⟨p,rfl⟩⟩;exact⟨_,q,.inr ⟨Cc p,a,rfl⟩⟩)));rcases d with⟨f,rfl⟩|⟨r,a,rfl⟩
 .have m:=m x i f;go_wp2_with(go_at_call 75;refine m.mono ?_;rintro e M ⟨v,rfl,z,F⟩);refine bodyPost_ret (results_tmp2 rfl _ _ _) rfl ?_;exact⟨.inl ⟨f,v,rfl,by
   refine⟨z.1,?_⟩;rcases z.2 with H|⟨g,c,s,I,J,K⟩
   .exact .inl H
   .exact .inr ⟨g,c,s,I,bu i.size J,K⟩⟩,aN i F⟩
 .go_wp2_with fail;refine bodyPost_ret (results_tmp2 rfl _ _ _) rfl ?_;exact⟨.inr ⟨r,a,rfl⟩,i⟩
theorem MX {w:ah}{b:Nat}{x y z:au}{t:TypeId}(h:w.heap[b]? =some (ai #[x,y,z] t))(a c d:au):(((w.setCell ⟨b,0,none⟩ a).setCell ⟨b,1,none⟩ c).setCell ⟨b,2,none⟩ d).heap[b]? =some (ai #[a,c,d] t):=by
 have e:=heap_setCell_same w b 0 _ _ a h;have f:=heap_setCell_same _ b 1 _ _ c e;have g:=heap_setCell_same _ b 2 _ _ d f;rw[g];rfl
structure oC (w:ah)(b:Nat)(x y z:au):Prop where
 c0:w.cell? (aH b 0)=some x
 c1:w.cell? (aH b 1)=some y
 c2:w.cell? (aH b 2)=some z
 f0:w.frozen? ⟨b,0,none⟩=false
 f1:w.frozen? ⟨b,1,none⟩=false
 f2:w.frozen? ⟨b,2,none⟩=false
theorem oC.of {w:ah}{b:Nat}{x y z:au}{t:TypeId}(h:w.heap[b]? =some (ai #[x,y,z] t)):oC w b x y z:=by
 have a:∀j,w.frozen? ⟨b,j,none⟩=false:=λj=>by unfold World.frozen?;rw[h];simp
 exact⟨by simp[World.cell?,h],by simp[World.cell?,h],by simp[World.cell?,h],a 0,a 1,a 2⟩
theorem fO {w:ah}{a:Nat}{e:TypeId}{v:au}{n:Nat}(h:w.ownsRow A e d v n C)(f:a<=A):w.ownsRow a e d v n C:=by
 refine⟨h.1,?_⟩;rcases h.2 with i|⟨g,b,c,j,k,l⟩
 .exact .inl i
 .exact .inr ⟨g,b,c,j,bu f k,l⟩
theorem own_below {w w':ah}{e:TypeId}{v:au}{n:Nat}(h:w.ownsRow A e d v n C)(f:Below w.heap.size w w'):w'.ownsRow A e d v n C:=by
 refine⟨h.1,?_⟩;rcases h.2 with i|⟨g,a,b,j,k,c,l⟩
 .exact .inl i
 .exact .inr ⟨g,a,b,j,k,(f.block g (dZ.1 c).1).trans c,l⟩
theorem jD {w:ah}{e:TypeId}{v:au}{n:Nat}(h:w.ownsRow A e d v n C){p:Addr}(hp:p.block<A)(u:au):(w.setCell p u).ownsRow A e d v n C:=by
 refine⟨h.1,?_⟩;rcases h.2 with c|⟨g,a,b,f,i,j,k⟩
 .exact .inl c
 .exact .inr ⟨g,a,b,f,i,(bY w p u g aa).trans j,k⟩
theorem Ao {w:ah}{g:Nat}{e:TypeId}{n b a:Nat}(h:w.ownsRow A e 1 (aj (some ⟨g,0,none⟩) b a) n C):∀j u,C[j]? =some u->w.cell? ((⟨g,0,none⟩:Addr).add j)=some u:=λj u c=>World.ownsRow.cells h (g:=g) rfl j u c
theorem MZ (l:List aM):∀u∈l.map Value.string,u.oneCell'=true:=λu a=>by
 obtain⟨s, -,rfl⟩:=gu.1 a;rfl
theorem Zk (aB aS aZ K:Addr)(l:List P5)(o:Option Addr)(d n h:Nat)(w:ah)(a4:1<=n)(hn:n<=40)(Aa:1<=h)(hh:h<=40)(hl:l.length<=1000)(hR:E9 w o d l)(hP:kT w l)(hE:EP aB aS aZ K w):
  aJ 39 #[aj o l.length d,ag n,ag h] w λe W=>((nD l/\∃v,e=ax (aF #[.agg #[ag n,ag h,v],aU])/\W.ownsRow w.heap.size 9 1 v (n*h) ((ng bA (sP l) n h).map ak))\/(¬nD l/\∃f,Jq aB aS K l w.heap.size f W/\e=ax (aF #[.agg #[ag 0,ag 0,aj none 0 0],aP 67 (aI f)])))/\Below w.heap.size w W:=by
 have L:=bZ w (ai #[ag 0,ag 0,aj none 0 0] 81);have Z:=eO w (ai #[ag 0,ag 0,aj none 0 0] 81);have IS:=λV=>yY (n:Int) V;rw[show decide (1<=(n:Int)/\(n:Int)<=40)=true from by simp;omega] at IS;have IH:=λV=>yY (h:Int) V;rw[show decide (1<=(h:Int)/\(h:Int)<=40)=true from by simp;omega] at IH;go_enter func39,ntmps39;go_upto_region 1 with fail;obtain⟨U,hU⟩:∃U,w.alloc (ai #[ag 0,ag 0,aj none 0 0] 81)=U:=⟨_,rfl⟩;rw[hU] at L Z⊢;clear hU;have c5:w.heap.size<U.heap.size:=(dZ.1 Z).1;have CK:=wI aB aS aZ K l o d U hl (hR.below L).at_ (hP.below L ay) (hE.below L ay);go_upto_region 4 with(first|(go_at_call 74;refine CK.mono ?_;rintro e a ⟨hc,b1⟩;obtain⟨v,rfl,M⟩:∃v,e=ax v/\((nD l/\v=aU)\/(¬nD l/\∃f,Hid (Jq aB aS K l U.heap.size f a)/\v=aP 67 (aI f))):=(by rcases hc with⟨k1,k2⟩|⟨f,k1,k2⟩;exact⟨_,k2,.inl ⟨k1,rfl⟩⟩;exact⟨_,k2,.inr ⟨Cc (by obtain⟨q,x,r,y, -,A, -⟩:=k1;exact⟨x,by rw[y];simp,A⟩),f,k1,rfl⟩⟩))|(go_at_call_of 73 (h:Int);refine(IH _).mono ?_;rintro e a ⟨rfl,N⟩;rw[N];clear N)|(go_at_call_of 73 (n:Int);refine(IS _).mono ?_;rintro e a ⟨rfl,N⟩;rw[N];clear N));clear CK IS IH;have yU:=aN L b1;have C:=(b1.block _ (dZ.1 Z).1).trans Z;have q0:a.cell? ⟨w.heap.size,0,none⟩=some (ag 0):=by simp[World.cell?,C]
 have q1:a.cell? ⟨w.heap.size,1,none⟩=some (ag 0):=by simp[World.cell?,C]
 have q2:a.cell? ⟨w.heap.size,2,none⟩=some (aj none 0 0):=by simp[World.cell?,C]
 have z:∀j,a.frozen? ⟨w.heap.size,j,none⟩=false:=λj=>by unfold World.frozen?;rw[C];simp
 have z0:=z 0;have z1:=z 1;have z2:=z 2;rcases M with⟨O,rfl⟩|⟨a5,f,a6,rfl⟩
 .go_upto_region 7 with fail;have b2:=bZ a (ai #[ag n,ag h,aj none 0 0] 81);have r2:=eO a (ai #[ag n,ag h,aj none 0 0] 81);have P:(a.alloc (ai #[ag n,ag h,aj none 0 0] 81)).heap.size=a.heap.size+1:=aG;obtain⟨V,D⟩:∃V,a.alloc (ai #[ag n,ag h,aj none 0 0] 81)=V:=⟨_,rfl⟩;obtain⟨B,Q⟩:∃B,a.heap.size=B:=⟨_,rfl⟩;have a7:w.heap.size<B:=by rw[<- Q];exact(dZ.1 C).1
  have a8:=aN yU b2;rw[D] at r2 P a8⊢;have bB:Below B a V:=by rw[<- Q,<- D];exact b2
  rw[Q] at r2 P⊢;have HB:=aA Q;clear D Q b2 q0 q1 q2 z z0 z1 z2;obtain⟨i0,hi,a9,b3,b6⟩:=info_parts MW;go_wp2_with fail
  go_loopw [31] (λi wr=>∃(k:Nat) (v:au),k<=h/\i=ag k/\wr.heap[B]? =some (ai #[ag n,ag h,v] 81)/\wr.ownsRow (B+1) 9 1 v (n*k) ((ng bA (sP l) n k).map ak)/\Below B a wr) (λi _=>h-(intOf i).toNat)
  case atStart=>exact⟨0,_,bf _,rfl,r2,gp _ _ _ _,bB⟩
  case round=>
   obtain⟨k,v,hk,rfl,m,b,hb⟩:=hrel;have b7:Below a.heap.size a wr:=by rw[HB.out];exact hb
   have R:=aN yU b7;have b8:B<wr.heap.size:=(dZ.1 m).1;obtain⟨c0,c1,c2,f0,f1,f2⟩:=oC.of m;by_cases c6:k<h
   .have c4:(k:Int)<(h:Int):=aa;have RO:=λV (M:Below w.heap.size w V)=>KS aB aS aZ K l o d n (k:Int) V aa aa aa hl (hR.below M) (hP.below M ay) O (hE.below M ay);have c7:n*k<=40*40:=Nat.mul_le_mul hn aa;go_upto_region 10 with fail;have c8:wr.drew.cell? (aH B 2)=some v:=c2;have S:∀r,v.ownBlock=some r->B<r:=λr e=>by have:=(b.lt r e).1;omega
    have T:∀V,Below wr.heap.size wr V->aJ 75 #[aj o l.length d,ag n,ag (k:Int)] V λe p=>∃I J,e=ax (aj (some ⟨I,0,none⟩) n J)/\p.ownsRow (B+1) 9 1 v (n*k) ((ng bA (sP l) n k).map ak)/\p.ownsRow wr.heap.size 9 1 (aj (some ⟨I,0,none⟩) n J) n ((sH bA (sP l) n (k:Int)).map ak)/\Below wr.heap.size wr p/\p.cell? (aH B 2)=some v/\B+1<=p.heap.size:=λV D=>(RO V (aN R D)).mono (by
     rintro e p ⟨vr,rfl,s,E⟩;obtain⟨I,J,rfl, -, -⟩:=s.form aa;have b5:=aN D E;exact⟨I,J,rfl,own_below b b5,fO s D.size,b5,(b5.cell (aR c2)).trans c2,by have:=b5.size;omega⟩)
    have t:∀p F,Below wr.heap.size wr p->p.grownBy F v.ownBlock->F.heap[B]? =some (ai #[ag n,ag h,v] 81)/\Below B a F:=λp F E gr=>by
     have h4:=(E.block B b8).trans m;refine⟨(gr.block B (dZ.1 h4).1 (λe=>by have:=S B e.symm;omega)).trans h4,?_⟩;exact(hb.trans (E.mono aa)).grown gr (by have:=E.size;omega) (λr e=>by have:=S r e;omega)
    clear RO
    go_region_law (first|(refine step_append_lies _ rfl (.tmp 35) (.tmp 39) 22 rfl (B+1) 9 i0 (ak ⟨#[]⟩) 1 16 underlying22 hi a9 b3 b6 rfl aC v (n*k) ((ng bA (sP l) n k).map ak) rfl TC ⟨I,0,none⟩ n J ((sH bA (sP l) n (k:Int)).map ak) rfl (by rw[dF,wG,Nat.mul_one]) (Ao s) (MZ _) aa (by simp only[maxLen];omega) aa aa _ rfl ?_;intro g7 xJ F kz l9 TE c9;obtain⟨H,b9⟩:=t _ _ E l9;obtain⟨-, -,d0, -, -,d1⟩:=oC.of H)|(go_simp;go_wp2_with(go_at_call 75;refine(T _ (by exact(aQ _ _).drew)).mono ?_;rintro e p ⟨I,J,rfl,TC,s,E,d2,d3⟩)))
    all_goals
     have u:(F.setCell ⟨B,2,none⟩ (aj (some ⟨g7,0,none⟩) (n*k+n) xJ)).heap[B]? =some (ai #[ag n,ag h,aj (some ⟨g7,0,none⟩) (n*k+n) xJ] 81):=by
      rw[heap_setCell_same F B 2 _ _ _ H];rfl
     have X:(ng bA (sP l) n (k+1)).map Value.string=(ng bA (sP l) n k).map Value.string++(sH bA (sP l) n (k:Int)).map Value.string:=by rw[xz,iG]
     have Y:Hid (_/\_):=And.intro u X;have c3:=aA kz;clear u X kz l9 H t T TC s;go_wp2_with fail
     go_roundw
     case rel=>
      refine⟨k+1,_,aa,by go_num,Y.out.1,?_,b9.setCell ay _⟩;rw[Y.out.2,Nat.mul_succ];exact jD c3.out aG _
     case measure=>simp[intOf];omega
   .obtain rfl:k=h:=aa;have r3:=(hb.block w.heap.size a7).trans C;obtain⟨q0,q1,q2,z0,z1,z2⟩:=oC.of r3;obtain⟨g,cp,rfl,hg,d4⟩:=b.form (Nat.mul_pos a4 Aa);go_wp2_with fail;have r4:=MX r3 (ag n) (ag k) (aj (some ⟨g,0,none⟩) (n*k) cp);obtain⟨e0,y,A, -, -, -⟩:=oC.of r4;refine bodyPost_ret (v:=aF #[.agg #[ag n,ag k,aj (some ⟨g,0,none⟩) (n*k) cp],aU]) (by simp[results,results39,go_sem,e0,y,A]) rfl ?_;refine⟨.inl ⟨O,_,rfl,?_⟩,((R.setCell ay _).setCell ay _).setCell ay _⟩;exact fO (jD (jD (jD b aX _) aX _) aX _) aa
 .go_wp2_with fail;have r3:=MX C (ag 0) (ag 0) (aj none 0 0);obtain⟨e0,y,A, -, -, -⟩:=oC.of r3;refine bodyPost_ret (v:=aF #[.agg #[ag 0,ag 0,aj none 0 0],aP 67 (aI f)]) (by simp[results,results39,go_sem,e0,y,A]) rfl ?_;obtain⟨q,x,r,y,A,e3,e4,⟨n0,e6⟩,e5⟩:=a6.out;have c:w.heap.size≠f:=aa;exact⟨.inr ⟨a5,f,⟨q,x,r,y,A,e3,aa,⟨n0,by rw[bN _ _ _ _ c,bN _ _ _ _ c,bN _ _ _ _ c];exact e6⟩,by rw[bN _ _ _ _ c,bN _ _ _ _ c,bN _ _ _ _ c];exact e5⟩,rfl⟩,((yU.setCell ay _).setCell ay _).setCell ay _⟩
