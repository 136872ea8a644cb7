import Derived.Test.YtbkjmamcnflncaaGreatDoorQt25
namespace Go.Proofs.YtbkjmamcnflncaaGreatDoor
open Go.Proofs.Tryz
set_option maxHeartbeats 16000000
variable{l:List P5}{w w0 w':ai}{b A d n:Nat}{q:P5->Bool}{e:TypeId}{C:List ax}
section
open Go.RowKit
set_option maxRecDepth 20000
def yf (l:List Qt)(k:Nat):Prop:=∀a∈l.take k,fV a.xn a.xd=0/\fV a.yn a.yd=0
theorem Ry (l:List Qt)(f:Qt->Bool)(k:Nat)(a:Qt)(h:l[k]? =some a):(l.take (k+1)).any f=((l.take k).any f||f a):=by
 rw[eX,h];simp
theorem yf.snoc {l:List Qt}{k:Nat}{a:Qt}(h:yf l k)(d:l[k]? =some a)(e:fV a.xn a.xd=0)(f:fV a.yn a.yd=0):yf l (k+1):=λb c=>by
 rw[eX,d] at c;rcases iw.1 c with c|c
 .exact h b c
 .grind
theorem Et {l:List Qt}{y:Int}{a:Qt}(b:a∈l)(h:¬(fV a.xn a.xd=0/\fV a.yn a.yd=0)):bT l y=false:=by
 unfold bT;grind
theorem Vq {l:List Qt}{y:Int}(c:¬y< -1073741824)(d:¬1073741824<=y)(h:yf l l.length):bT l y=(XK l y && NH l y):=by
 unfold bT;rw[aG aa];have:l.all (λa=>decide (fV a.xn a.xd=0) && decide (fV a.yn a.yd=0))=true:=by
  rw[List.all_eq_true];intro a b;have:=h a (by rw[gJ];exact b);simp[this]
 rw[this];rfl
theorem kI.box (w:ai)(x:P5)(t:TypeId):Vn (w.alloc (ak (Bq x) t)) w.heap.size 0 x/\aD w (w.alloc (ak (Bq x) t)):=⟨Vn.new w x t,dz w _⟩
theorem Eu (aB aS aZ:Addr)(x:P5)(y:Int)(w:ai)(hl:x.s.pts.length<=1000)(h:iH w x.o x.s.pts)(hE:E3 aB aS aZ w):
  aL 126 #[p5V x,ag y] w λe W=>e=ay (.bool (bT x.s.pts y))/\aD w W:=by
 obtain⟨S,q⟩:=kI.box w x 115;by_cases h1:y< -1073741824
 .have o:bT x.s.pts y=false:=by unfold bT;rw[aR (.inl h1)]
  rw[o];go_enter func126,ntmps126;go_wp2;go_ret;exact⟨rfl,q⟩
 by_cases h2:1073741824<=y
 .have o:bT x.s.pts y=false:=by unfold bT;rw[aR (.inr h2)]
  rw[o];go_enter func126,ntmps126;go_wp2;go_ret;exact⟨rfl,q⟩
 obtain⟨T,N⟩:∃T,bT x.s.pts y=T:=⟨_,rfl⟩;rw[N];have O:=aF N;clear N;go_enter func126,ntmps126;go_upto_region 1 with fail;obtain⟨U,L⟩:∃U,w.alloc (ak (Bq x) 115)=U:=⟨_,rfl⟩;rw[L] at S q⊢;clear L;have L:=h.below q az;have TN:=hE.below q az;obtain⟨c0,c1,c2,c3,c4⟩:=S;go_wp2_with fail;clear c0 c1 c2 c3 c4
 go_loopw [5,6,20] (λu v i wr=>∃k:Nat,k<=x.s.pts.length/\i=ag k/\u=.bool ((x.s.pts.take k).any λa=>decide (pE y a.yn a.yd<=0))/\v=.bool ((x.s.pts.take k).any λa=>decide (0<=pE y a.yn a.yd))/\yf x.s.pts k/\aD U wr) (λ_ _ i _=>x.s.pts.length-(intOf i).toNat)
 case atStart=>exact⟨0,bA _,rfl,rfl,rfl,(λa p=>by simp at p),aW _ _⟩
 case round=>
  obtain⟨k,hk,rfl,rfl,rfl,j,z⟩:=hrel;by_cases P:k<x.s.pts.length
  .have X:(k:Int)<(x.s.pts.length:Int):=aa;obtain⟨a,p⟩:∃a,x.s.pts[k]? =some a:=⟨_,fD P⟩;obtain⟨b,a4,ho,q0,q1,q2,q3,r⟩:=L.below z az k a p;rw[ho];have F:=TN.below z az;have B:=Four.new wr (ag a.xn) (ag a.xd) (ag a.yn) (ag a.yd) 233;have s:=dz wr (ak #[ag a.xn,ag a.xd,ag a.yn,ag a.yd] 233);have C:=λV (Q:aD wr V)=>kZ aB aS aZ a.xn a.xd V r.xn r.xd (F.below Q az);have H:=λV (Q:aD wr V)=>kZ aB aS aZ a.yn a.yd V r.yn r.yd (F.below Q az);have t:a∈x.s.pts:=ic p;obtain⟨f0,f1,f2,f3⟩:=id B;by_cases D:fV a.xn a.xd=0
   .rw[D,wF] at C;by_cases E:fV a.yn a.yd=0
    .rw[E,wF] at H;have R:=λV=>NI y a.yn a.yd V aa aa E;have c:Hid (yf x.s.pts (k+1)):=j.snoc p D E;have f:Hid ((x.s.pts.take (k+1)).any (λa=>decide (pE y a.yn a.yd<=0))=((x.s.pts.take k).any (λa=>decide (pE y a.yn a.yd<=0))||decide (pE y a.yn a.yd<=0))):=Ry _ _ k a p;have g:Hid ((x.s.pts.take (k+1)).any (λa=>decide (0<=pE y a.yn a.yd))=((x.s.pts.take k).any (λa=>decide (0<=pE y a.yn a.yd))||decide (0<=pE y a.yn a.yd))):=Ry _ _ k a p;clear j D E p;generalize pE y a.yn a.yd=M at R f g;generalize (x.s.pts.take k).any (λa=>decide (pE y a.yn a.yd<=0))=I at f⊢;generalize (x.s.pts.take k).any (λa=>decide (0<=pE y a.yn a.yd))=A at g⊢;go_upto_region 10 with(first|(go_at_call 186;refine(R _).mono ?_;rintro e w4 ⟨rfl,Y⟩)|(go_at_call_of 185 a.yn;refine(H _ (aP s m)).mono ?_;rintro e w3 ⟨rfl,J⟩;obtain⟨k0,k1,k2,k3⟩:=(B.below m az).below J az)|(go_at_call_of 185 a.xn;refine(C _ s).mono ?_;rintro e Z ⟨rfl,m⟩;obtain⟨g0,g1,g2,g3⟩:=B.below m az));have n:=aP z (aP (aP (aP s m) J) Y);clear B s m J Y f0 f1 f2 f3 C H R;by_cases l:M<=0
     .by_cases d:0<=M
      .cases I with
       |true=>
        cases A with
        |true=>
         go_wp2_with fail
         go_roundw
         case rel=>exact⟨k+1,aa,aI,by rw[f.out];simp,by rw[g.out];simp,c.out,n⟩
         case measure=>simp[intOf];omega
        |false=>
         go_wp2_with fail
         go_roundw
         case rel=>exact⟨k+1,aa,aI,by rw[f.out];simp,by rw[g.out];simp[d],c.out,n⟩
         case measure=>simp[intOf];omega
       |false=>
        cases A with
        |true=>
         go_wp2_with fail
         go_roundw
         case rel=>exact⟨k+1,aa,aI,by rw[f.out];simp[l],by rw[g.out];simp,c.out,n⟩
         case measure=>simp[intOf];omega
        |false=>
         go_wp2_with fail
         go_roundw
         case rel=>exact⟨k+1,aa,aI,by rw[f.out];simp[l],by rw[g.out];simp[d],c.out,n⟩
         case measure=>simp[intOf];omega
      .cases I with
       |true=>
        cases A with
        |true=>
         go_wp2_with fail
         go_roundw
         case rel=>exact⟨k+1,aa,aI,by rw[f.out];simp,by rw[g.out];simp,c.out,n⟩
         case measure=>simp[intOf];omega
        |false=>
         go_wp2_with fail
         go_roundw
         case rel=>exact⟨k+1,aa,aI,by rw[f.out];simp,by rw[g.out];simp[d],c.out,n⟩
         case measure=>simp[intOf];omega
       |false=>
        cases A with
        |true=>
         go_wp2_with fail
         go_roundw
         case rel=>exact⟨k+1,aa,aI,by rw[f.out];simp[l],by rw[g.out];simp,c.out,n⟩
         case measure=>simp[intOf];omega
        |false=>
         go_wp2_with fail
         go_roundw
         case rel=>exact⟨k+1,aa,aI,by rw[f.out];simp[l],by rw[g.out];simp[d],c.out,n⟩
         case measure=>simp[intOf];omega
     .by_cases d:0<=M
      .cases I with
       |true=>
        cases A with
        |true=>
         go_wp2_with fail
         go_roundw
         case rel=>exact⟨k+1,aa,aI,by rw[f.out];simp,by rw[g.out];simp,c.out,n⟩
         case measure=>simp[intOf];omega
        |false=>
         go_wp2_with fail
         go_roundw
         case rel=>exact⟨k+1,aa,aI,by rw[f.out];simp,by rw[g.out];simp[d],c.out,n⟩
         case measure=>simp[intOf];omega
       |false=>
        cases A with
        |true=>
         go_wp2_with fail
         go_roundw
         case rel=>exact⟨k+1,aa,aI,by rw[f.out];simp[l],by rw[g.out];simp,c.out,n⟩
         case measure=>simp[intOf];omega
        |false=>
         go_wp2_with fail
         go_roundw
         case rel=>exact⟨k+1,aa,aI,by rw[f.out];simp[l],by rw[g.out];simp[d],c.out,n⟩
         case measure=>simp[intOf];omega
      .exact absurd (show 0<=M by omega) d
    .obtain⟨ad,K⟩:=jy aB aS aZ (show fV a.yn a.yd=2\/fV a.yn a.yd=3 by have:=iD a.yn a.yd;omega);rw[K] at H;have o:T=false:=O.out.symm.trans (Et t (λh=>E h.2));subst o;clear K j p D E;go_wp2_with(first|(go_at_call_of 185 a.yn;refine(H _ (aP s m)).mono ?_;rintro e w3 ⟨rfl,J⟩)|(go_at_call_of 185 a.xn;refine(C _ s).mono ?_;rintro e Z ⟨rfl,m⟩;obtain⟨g0,g1,g2,g3⟩:=B.below m az));go_ret;exact⟨rfl,aP q (aP z (aP (aP s m) J))⟩
   .obtain⟨ad,K⟩:=jy aB aS aZ (show fV a.xn a.xd=2\/fV a.xn a.xd=3 by have:=iD a.xn a.xd;omega);rw[K] at C;have o:T=false:=O.out.symm.trans (Et t (λh=>D h.1));subst o;clear K j p D;go_wp2_with(first|(go_at_call_of 185 a.xn;refine(C _ s).mono ?_;rintro e Z ⟨rfl,m⟩;obtain⟨g0,g1,g2,g3⟩:=B.below m az));go_ret;exact⟨rfl,aP q (aP z (aP s m))⟩
  .obtain rfl:k=x.s.pts.length:=aa;have o:T=(XK x.s.pts y && NH x.s.pts y):=O.out.symm.trans (Vq aa aa j);unfold XK NH at o;rw[gJ];have c:=aF o;clear o j;generalize x.s.pts.any (λa=>decide (pE y a.yn a.yd<=0))=I at c⊢;generalize x.s.pts.any (λa=>decide (0<=pE y a.yn a.yd))=A at c⊢;cases I with
   |true=>
    go_wp2_with fail;go_ret;exact⟨by rw[c.out];rfl,aP q z⟩
   |false=>
    go_wp2_with fail;go_ret;exact⟨by rw[c.out];rfl,aP q z⟩
end
open Go.RowKit
def cells5:List P5->List ax
 |[]=>[]
 |a::r=>ag a.nd::aj a.o a.s.pts.length a.cap::au a.s.fill::au a.s.rule::ag a.lv::cells5 r
theorem IL:∀l:List P5,(cells5 l).length=l.length*5
 |[]=>rfl
 |x::r=>by simp[cells5,IL r];omega
theorem zN:∀(l:List P5) (i:Nat) (x:P5),l[i]? =some x->(cells5 l)[i*5]? =some (ag x.nd)/\(cells5 l)[i*5+1]? =some (aj x.o x.s.pts.length x.cap)/\(cells5 l)[i*5+2]? =some (au x.s.fill)/\(cells5 l)[i*5+3]? =some (au x.s.rule)/\(cells5 l)[i*5+4]? =some (ag x.lv)
 |[],i,x,h=>by simp at h
 |y::r,0,x,h=>by simp at h;subst h;exact⟨rfl,rfl,rfl,rfl,rfl⟩
 |y::r,i+1,x,h=>by
  have a:=zN r i x (by simpa using h);have e:(i+1)*5=i*5+5:=aa;rw[e];exact a
theorem zO:∀(l:List P5) (j:Nat) (u:ax),(cells5 l)[j]? =some u->∃i x,l[i]? =some x/\((j=i*5/\u=ag x.nd)\/(j=i*5+1/\u=aj x.o x.s.pts.length x.cap)\/(j=i*5+2/\u=au x.s.fill)\/(j=i*5+3/\u=au x.s.rule)\/(j=i*5+4/\u=ag x.lv))
 |[],j,u,h=>by simp[cells5] at h
 |x::r,0,u,h=>by simp[cells5] at h;exact⟨0,x,rfl,.inl ⟨rfl,h.symm⟩⟩
 |x::r,1,u,h=>by simp[cells5] at h;exact⟨0,x,rfl,.inr (.inl ⟨rfl,h.symm⟩)⟩
 |x::r,2,u,h=>by simp[cells5] at h;exact⟨0,x,rfl,.inr (.inr (.inl ⟨rfl,h.symm⟩))⟩
 |x::r,3,u,h=>by simp[cells5] at h;exact⟨0,x,rfl,.inr (.inr (.inr (.inl ⟨rfl,h.symm⟩)))⟩
 |x::r,4,u,h=>by simp[cells5] at h;exact⟨0,x,rfl,.inr (.inr (.inr (.inr ⟨rfl,h.symm⟩)))⟩
 |x::r,j+5,u,h=>by
  have a:(cells5 r)[j]? =some u:=by simpa[cells5] using h
  obtain⟨i,y,b,c⟩:=zO r j u a;refine⟨i+1,y,by simpa using b,?_⟩;grind
theorem Vr (l:List P5):∀u∈cells5 l,u.oneCell'=true:=λu a=>by
 obtain⟨j,b⟩:=List.getElem?_of_mem a;obtain⟨i,x, -,⟨-,rfl⟩|⟨-,rfl⟩|⟨-,rfl⟩|⟨-,rfl⟩|⟨-,rfl⟩⟩:=zO l j u b<;>rfl
theorem Rz {a:Addr}(h:kI w (some a) l):∀j u,(cells5 l)[j]? =some u->w.cell? (a.add j)=some u:=λj u c=>by
 obtain⟨i,x,d,g⟩:=zO l j u c;obtain⟨b,e,f,k,m,n,o,p⟩:=h i x d;cases f;rw[addr_add];grind
def Own5 (w:ai)(A:Nat)(v:ax)(l:List P5):Prop:=w.ownsRow A 115 5 v l.length (cells5 l)
structure EW (w:ai)(o:Option Addr)(cap:Nat)(l:List P5):Prop where
 at_:kI w o l
 le:l.length<=cap
 no:o=none->cap=0
theorem EW.below {w w':ai}{o:Option Addr}{a:Nat}{l:List P5}(h:EW w o a l)(b:aD w w'):EW w' o a l:=⟨h.at_.below b az,h.le,h.no⟩
structure RH (w:ai)(b:Nat)(l:List P5):Prop where
 c:∀i x,l[i]? =some x->Vn w b (i*5) x
 f:∀j,j<l.length*5->w.frozen? ⟨b,j,none⟩=false
theorem RH.at_ (h:RH w b l):kI w (some ⟨b,0,none⟩) l:=λi x a=>⟨b,0,rfl,by rw[gq];exact h.c i x a⟩
theorem RH.below {w w':ai}{l:List P5}(h:RH w b l)(a:aD w w')(c:b<w.heap.size):RH w' b l:=⟨λi x d=>(h.c i x d).below a az,λj e=>(a.frozen (p:=⟨b,j,none⟩) c).trans (h.f j e)⟩
theorem Own5.rw {w:ai}{v:ax}{l:List P5}(h:Own5 w A v l):(v=aj none 0 0/\l=[])\/∃b a,v=aj (some ⟨b,0,none⟩) l.length a/\A<=b/\b<w.heap.size/\l.length<=a/\RH w b l:=by
 have m:=h;rcases h.2 with⟨rfl,f⟩|⟨g,a,n,rfl,o,c,e,p,q⟩
 .grind
 .refine .inr ⟨g,a,rfl,o,(eY.1 c).1,e,?_,?_⟩
  .intro i x r;have d:∀j u,(cells5 l)[j]? =some u->w.cell? (aJ g j)=some u:=λj u k=>by
    have:=World.ownsRow.cells m (g:=g) rfl j u k;rw[addr_add,gq] at this;exact this
   obtain⟨f,s,t,y,z⟩:=zN l i x r;exact⟨d _ _ f,d _ _ s,d _ _ t,d _ _ y,d _ _ z⟩
  .intro j k;unfold World.frozen?;grind
theorem acj:(prog.info? 115).map (λi=>(i.zero,i.size,i.bytes))=some (some (.agg #[ag 0,aj none 0 0,au ⟨#[]⟩,au ⟨#[]⟩,ag 0]),5,72):=aA
theorem RI (w:ai)(o:Option Addr)(b:Nat)(l:List P5)(h:EW w o b l)(C:l.length<=1000):
  aL 124 #[aj o l.length b] w λe w'=>∃v,e=ay v/\Own5 w' w.heap.size v l/\aD w w':=by
 have r:∀(w:ai) (a:Option Addr) (n c d f:Nat),(binOp .eql 84 (aj a n c) (aj none d f)).run prog w=.ok (.bool a.isNone) w:=λw a n c d f=>Lib.run_eql_slice_nil w _ _ a n c d f underlying84;obtain⟨s,t,g,i,m⟩:=info_parts acj;cases o with
 |none=>
  have D:=h.no rfl;have x:l=[]:=lu.1 (by have:=h.le;omega);subst x;go_enter func124,ntmps124;go_wp2_with fail;go_ret;exact⟨_,rfl,gp _ _ _ _,aW _ _⟩
 |some a=>
  have y:Hid (∀j u,(cells5 l)[j]? =some u->(w.alloc (ak #[] 115)).cell? (a.add j)=some u):=λj u q=>((dz w (ak #[] 115)).cell (aX (Rz h.at_ j u q))).trans (Rz h.at_ j u q);go_enter func124,ntmps124;go_wp2_with(at_builtin;refine wpList_append_own _ rfl _ _ 84 rfl w.heap.size 115 s (.agg #[ag 0,aj none 0 0,au ⟨#[]⟩,au ⟨#[]⟩,ag 0]) 5 72 underlying84 t g i m rfl aC _ _ _ rfl (World.ownsRow_made w #[] 0 az (bA _) aI) a l.length b (cells5 l) rfl (IL l) y.out (Vr l) (by simp only[maxLen];omega) aa aI ?_;intro E F z A _);go_ret;refine⟨_,rfl,?_,((aW _ w).alloc az _).grown A aI (λk B=>by have p:some w.heap.size=some k:=B;cases p;exact bJ _)⟩;simpa[Own5] using z
set_option maxRecDepth 20000
abbrev rfV (a By:Nat):ax:=.func (.func a) #[] #[aK By]
def a81 (A a By:Nat)(w:ai)(l:List P5)(q:P5->Bool):Prop:=∀x∈l,∀V,Below A w V->aL a #[p5V x,aK By] V λe W=>e=ay (.bool (q x))/\aD V W
theorem Vs (aB aS aZ:Addr)(x:P5)(y:Int)(By:Nat)(w:ai)(c:x.s.pts.length<=1000)(h:iH w x.o x.s.pts)(hE:E3 aB aS aZ w)(b:w.cell? (aJ By 0)=some (ag y)):
  aL 125 #[p5V x,aK By] w λe W=>e=ay (.bool (!bT x.s.pts y))/\aD w W:=by
 have a:=dz w (ak (Bq x) 115);have d:=Eu aB aS aZ x y (w.alloc (ak (Bq x) 115)) c (h.below a az) (hE.below a az);have f:=(a.cell (aX b)).trans b;go_enter func125,ntmps125;go_wp2_with(go_at_call 126;refine d.mono ?_;rintro e i ⟨rfl,g⟩);go_ret;exact⟨rfl,aP a g⟩
def al1 (q:P5->Bool)(l:List P5)(e:Ending):Prop:=((∀x∈l,q x=false)/\e=ay (ag (-1)))\/∃k x,l[k]? =some x/\(∀y∈l.take k,q y=false)/\q x=true/\e=ay (ag (k:Nat))
theorem RJ (A m By:Nat)(D:∀(z:Array ax) (w:ai),Sem.run prog (callFunc m z) w=.ok (.enter m z) w)(q:P5->Bool)(l:List P5)(o:Option Addr)(s:Nat)(w0 w:ai)(K:l.length<=1000)(h:kI w o l)(t:Below A w0 w)(d:A<=w.heap.size)(E:a81 A m By w0 l q):
  aL 184 #[aj o l.length s,rfV m By] w λe W=>al1 q l e/\aD w W:=by
 go_enter func184,ntmps184;go_wp2
 go_loopw [8] (λi wr=>∃k:Nat,k<=l.length/\i=ag k/\(∀x∈l.take k,q x=false)/\aD w wr) (λi _=>l.length-(intOf i).toNat)
 case atStart=>exact⟨0,bA _,rfl,(λa F=>by simp at F),aW _ _⟩
 case round=>
  obtain⟨k,L,rfl,c,g⟩:=hrel;by_cases u:k<l.length
  .have B:(k:Int)<(l.length:Int):=aa;obtain⟨x,n⟩:∃x,l[k]? =some x:=⟨_,fD u⟩;have j:x∈l:=ic n;obtain⟨b,H,rfl,I⟩:=h.below g az k x n;have p:=E x j wr (t.trans (g.mono d));obtain⟨M,N,O,P,Q⟩:=I;have C:=aF n;clear n;cases r:q x with
   |false=>
    rw[r] at p;go_wp2_with(refine p.mono ?_;rintro e J ⟨rfl,v⟩)
    go_roundw
    case rel=>exact⟨k+1,aa,by go_num,λy f=>by rw[eX,C.out] at f;rcases iw.1 f with f|f;exact c y f;simp at f;subst f;exact r,aP g v⟩
    case measure=>simp[intOf];omega
   |true=>
    rw[r] at p;go_wp2_with(refine p.mono ?_;rintro e J ⟨rfl,v⟩);go_ret;exact⟨.inr ⟨k,x,C.out,c,r,rfl⟩,aP g v⟩
  .obtain rfl:k=l.length:=aa;go_wp2_with fail;go_ret;rw[gJ] at c;exact⟨.inl ⟨c,rfl⟩,g⟩
theorem Kc (w:ai)(h:TypeId)(b o n c:Nat)(l:0<n)(hc:∀j,j<n*5->(w.cell? (aJ b (o+j))).isSome=true)(k:∀j,j<n*5->w.frozen? ⟨b,o+j,none⟩=false):
  ∃vs:List ax,vs.length=n*5/\(Builtin.clear_ #[84] h #[aj (some ⟨b,o,none⟩) n c]).run prog w=.ok (aH #[]) (w.setCells b o vs):=by
 have f:∀w,(zeroValue 115).run prog w=.ok (.agg #[ag 0,aj none 0 0,au ⟨#[]⟩,au ⟨#[]⟩,ag 0]) w:=λw=>aA;have a:(Builtin.zeroCells (Value.agg #[ag 0,aj none 0 0,au ⟨#[]⟩,au ⟨#[]⟩,ag 0]).cells n).toList.length=n*5:=by
  simp[Builtin.zeroCells,Value.cells]
 refine⟨(Builtin.zeroCells (Value.agg #[ag 0,aj none 0 0,au ⟨#[]⟩,au ⟨#[]⟩,ag 0]).cells n).toList,a,?_⟩;have d:∀v∈(Builtin.zeroCells (Value.agg #[ag 0,aj none 0 0,au ⟨#[]⟩,au ⟨#[]⟩,ag 0]).cells n).toList,v.oneCell'=true:=by
  intro v f;simp only[Builtin.zeroCells,Value.cells,Array.toList_map,gL] at f;obtain⟨i, -,rfl⟩:=f;have g:i % 5<5:=Nat.mod_lt _ aC;show(#[Value.int .i64 0,aj none 0 0,au ⟨#[]⟩,au ⟨#[]⟩,ag 0][i % 5]!).oneCell'=true;generalize i % 5=j at g
  match j,g with
  |0,_=>rfl
  |1,_=>rfl
  |2,_=>rfl
  |3,_=>rfl
  |4,_=>rfl
 have e:=run_storeCells_cells (P:=prog) b o (Builtin.zeroCells (Value.agg #[ag 0,aj none 0 0,au ⟨#[]⟩,au ⟨#[]⟩,ag 0]).cells n).toList 0 w (by rw[a];simpa using hc) (by rw[a];simpa using k) d;simp only[Nat.add_zero] at e;obtain⟨m,rfl⟩:∃m,n=m+1:=⟨n-1,aa⟩;simp[Builtin.clear_,run_underlying underlying84,f,e]
theorem jd {B b:Nat}{a:ai}(c:B<=b):∀(vs:List ax) (o:Nat) (w:ai),Below B a w->Below B a (w.setCells b o vs)
 |[],_,_,h=>h
 |_::vs,_,_,h=>jd c vs _ _ (h.setCell c _)
abbrev a3K (w:ai)(b o:Nat)(x:P5):ai:=((((w.setCell ⟨b,o,none⟩ (ag x.nd)).setCell ⟨b,o+1,none⟩ (aj x.o x.s.pts.length x.cap)).setCell ⟨b,o+2,none⟩ (au x.s.fill)).setCell ⟨b,o+3,none⟩ (au x.s.rule)).setCell ⟨b,o+4,none⟩ (ag x.lv)
theorem XL (w:ai)(b o:Nat)(x:P5):a3K w b o x=w.setCells b o [ag x.nd,aj x.o x.s.pts.length x.cap,au x.s.fill,au x.s.rule,ag x.lv]:=rfl
theorem RH.set (h:RH w b l){i:Nat}(hi:i<l.length)(x:P5):RH (a3K w b (i*5) x) b (l.set i x):=by
 rw[XL];have a:=h.c i l[i] (fD hi);have c:=World.cell?_setCells_in b [ag x.nd,aj x.o x.s.pts.length x.cap,au x.s.fill,au x.s.rule,ag x.lv] (i*5) w (λj f=>by
  have m:j<5:=f
  match j,m with
  |0,_=>rw[Nat.add_zero,a.c0];rfl
  |1,_=>rw[a.c1];rfl
  |2,_=>rw[a.c2];rfl
  |3,_=>rw[a.c3];rfl
  |4,_=>rw[a.c4];rfl)
 refine⟨λk y g=>?_,λj f=>?_⟩
 .by_cases e:k=i
  .subst e;rw[List.getElem?_set_self hi] at g;cases g;exact⟨c 0 aI,c 1 aI,c 2 aI,c 3 aI,c 4 aI⟩
  .rw[List.getElem?_set_ne (λh=>e h.symm)] at g;obtain⟨n,o,p,q,r⟩:=h.c k y g;have d:∀j,j<5->(w.setCells b (i*5) [ag x.nd,aj x.o x.s.pts.length x.cap,au x.s.fill,au x.s.rule,ag x.lv]).cell? (aJ b (k*5+j))=w.cell? (aJ b (k*5+j)):=λj f=>World.cell?_setCells_out b _ _ w ⟨b,k*5+j,none⟩ (λ_ _=>by
    show k*5+j<i*5\/i*5+5<=k*5+j;omega)
   exact⟨(d 0 aC).trans n,(d 1 aC).trans o,(d 2 aC).trans p,(d 3 aC).trans q,(d 4 aC).trans r⟩
 .rw[World.frozen?_setCells];exact h.f j (by rw[List.length_set] at f;exact f)
theorem RH.setCells (h:RH w b l)(i:Nat)(vs:List ax):RH (w.setCells b (i*5) vs) b (l.take i):=⟨λk y c=>by
  rw[zg] at c;split at c
  .rename_i e;obtain⟨f,g,m,n,o⟩:=h.c k y c;have a:∀j,j<5->(w.setCells b (i*5) vs).cell? (aJ b (k*5+j))=w.cell? (aJ b (k*5+j)):=λj d=>World.cell?_setCells_out b _ _ w ⟨b,k*5+j,none⟩ (λ_ _=>.inl (by
    show k*5+j<i*5;omega))
   exact⟨(a 0 aC).trans f,(a 1 aC).trans g,(a 2 aC).trans m,(a 3 aC).trans n,(a 4 aC).trans o⟩
  .exact absurd c aI,λj d=>by
  rw[World.frozen?_setCells];exact h.f j (by rw[iR] at d;omega)⟩
structure Ke (q:P5->Bool)(l:List P5)(b base:Nat)(w0:ai)(i j:Nat)(l':List P5)(w:ai):Prop where
 len:l'.length=l.length
 lt:i<j
 le:j<=l.length
 kept:l'.take i=(l.take j).filter λx=> !q x
 rest:l'.drop j=l.drop j
 row:RH w b l'
 EY:Below base w0 w
 sz:b<w.heap.size
theorem filter_none (h:∀x∈l,q x=false):(l.filter λx=> !q x)=l:=List.filter_eq_self.2 (λx a=>by rw[h x a];rfl)
theorem Ke.skip {i j:Nat}{d:List P5}{x:P5}(h:Ke q l b A w0 i j d w)(e:l[j]? =some x)(f:q x=true)(c:aD w w')(a:A<=w.heap.size):Ke q l b A w0 i (j+1) d w':=by
 have g:j<l.length:=(lK.1 e).1;refine⟨h.len,by have:=h.lt;omega,g,?_,?_,h.row.below c h.sz,h.EY.trans (c.mono a),fK h.sz c.size⟩
 .rw[h.kept,eX,e,List.filter_append];simp[f]
 .rw[<- nC,h.rest,nC]
theorem Ke.keep {i j:Nat}{c:List P5}{x:P5}(h:Ke q l b A w0 i j c w)(g:l[j]? =some x)(m:q x=false)(d:aD w w')(a:A<=w.heap.size)(e:A<=b):Ke q l b A w0 (i+1) (j+1) (c.set i x) (a3K w' b (i*5) x):=by
 have n:j<l.length:=(lK.1 g).1;have k:i<c.length:=by have:=h.lt;have:=h.le;rw[h.len];omega
 have f:=h.EY.trans (d.mono a);refine⟨by rw[List.length_set,h.len],by have:=h.lt;omega,n,?_,?_,(h.row.below d h.sz).set k x,?_,?_⟩
 .rw[eX,List.take_set_of_le az,h.kept,List.getElem?_set_self k,eX,g,List.filter_append];simp[m]
 .rw[List.drop_set_of_lt (by have:=h.lt;omega),<- nC,h.rest,nC]
 .rw[XL];exact jd e _ _ _ f
 .have:(a3K w' b (i*5) x).heap.size=w'.heap.size:=by simp[a3K]
  rw[this];exact fK h.sz d.size
theorem Ke.start {k:Nat}{x:P5}(d:RH w b l)(e:Below A w0 w)(hs:b<w.heap.size)(c:l[k]? =some x)(a:∀y∈l.take k,q y=false)(f:q x=true):Ke q l b A w0 k (k+1) l w:=by
 have g:k<l.length:=(lK.1 c).1;refine⟨rfl,aa,g,?_,rfl,d,e,hs⟩;rw[eX,c,List.filter_append,filter_none a];simp[f]
theorem LV (A L By:Nat)(Z:∀(av:Array ax) (w:ai),Sem.run prog (callFunc L av) w=.ok (.enter L av) w)(q:P5->Bool)(l:List P5)(b c:Nat)(w0 w:ai)(hl:l.length<=1000)(M:RH w b l)(N:A<=b)(O:b<w.heap.size)(b4:l.length<=c)(P:Below A w0 w)(hq:a81 A L By w0 l q):
  aL 123 #[aj (some ⟨b,0,none⟩) l.length c,rfV L By] w λe W=>e=ay (aj (some ⟨b,0,none⟩) (l.filter λx=> !q x).length c)/\RH W b (l.filter λx=> !q x)/\Below A w0 W/\b<W.heap.size:=by
 have g:A<=w.heap.size:=aa;have IX:=RJ A L By Z q l (some ⟨b,0,none⟩) c w0 w hl M.at_ P g hq;go_enter func123,ntmps123;go_upto_region 2 with(go_at_call 184;refine IX.mono ?_;rintro e w1 ⟨Q,b1⟩;obtain⟨n,rfl,hn⟩:∃n:Int,e=ay (ag n)/\((∀x∈l,q x=false)/\n= -1\/∃(k:Nat) (x:P5),l[k]? =some x/\(∀y∈l.take k,q y=false)/\q x=true/\n=k):=(by rcases Q with⟨k1,k2⟩|⟨k,x,k1,k2,k3,k4⟩;exact⟨_,k2,.inl ⟨k1,rfl⟩⟩;exact⟨_,k4,.inr ⟨k,x,k1,k2,k3,rfl⟩⟩));clear Q IX;have t:=M.below b1 O;have B:=P.trans (b1.mono g);have C:=fK O b1.size;rcases hn with⟨d,rfl⟩|⟨k,x,s,d,D,rfl⟩
 .go_wp2_with fail;go_ret;rw[filter_none d];exact⟨rfl,t,B,C⟩
 .have D0:=Ke.start t B C s d D;have hk:k<l.length:=(lK.1 s).1;have b6:((k:Int)== -1)=false:=dW.2 aa;clear s d D t B C M;go_wp2_with fail
  go_loopw [5,6] (λu v wr=>∃(i j:Nat) (h:List P5),u=ag i/\v=ag j/\Ke q l b A w0 i j h wr) (λ_ v _=>l.length-(intOf v).toNat)
  case atStart=>exact⟨k,k+1,l,rfl,by go_num,D0⟩
  case round=>
   obtain⟨i,j,h,rfl,rfl,a⟩:=hrel;have b7:=a.lt;have b8:=a.le;have E:A<=wr.heap.size:=by have:=a.sz;omega
   by_cases a4:j<l.length
   .have b5:(j:Int)<(l.length:Int):=aa;have b9:(i:Int)<(l.length:Int):=aa;obtain⟨x,s⟩:∃x,l[j]? =some x:=⟨_,fD a4⟩;have R:x∈l:=ic s;have S:h[j]? =some x:=by
     have o:(h.drop j)[0]? =some x:=by rw[a.rest,List.getElem?_drop];exact s
     rw[List.getElem?_drop] at o;exact o
    have hC:=a.row.c j x S;have b2:=dz wr (ak (Bq x) 115);have X:=hq x R (wr.alloc (ak (Bq x) 115)) (a.EY.trans (b2.mono E));have C0:=Vn.new wr x 115;obtain⟨c0,c1,c2,c3,c4⟩:=hC;have HX:=aF s;clear s S;cases D:q x with
    |true=>
     rw[D] at X;go_wp2_with(refine X.mono ?_;rintro e w2 ⟨rfl,Y⟩)
     go_roundw
     case rel=>exact⟨i,j+1,h,rfl,by go_num,a.skip HX.out D (aP b2 Y) E⟩
     case measure=>simp[intOf];omega
    |false=>
     rw[D] at X;have F:i<h.length:=by rw[a.len];omega
     have oi:=a.row.c i h[i] (fD F);generalize h[i]=c5 at oi;have I:∀m,m<5->wr.frozen? ⟨b,i*5+m,none⟩=false:=λm hm=>a.row.f _ (by rw[a.len];omega);go_upto_region 9 with(refine X.mono ?_;rintro e w2 ⟨rfl,Y⟩);have H:=aP b2 Y;obtain⟨d0,d1,d2,d3,d4⟩:=C0.below Y az;obtain⟨o0,o1,o2,o3,o4⟩:=oi.below H az;have f0:=(H.frozen (p:=⟨b,i*5,none⟩) a.sz).trans (I 0 aC);have f1:=(H.frozen (p:=⟨b,i*5+1,none⟩) a.sz).trans (I 1 aC);have f2:=(H.frozen (p:=⟨b,i*5+2,none⟩) a.sz).trans (I 2 aC);have f3:=(H.frozen (p:=⟨b,i*5+3,none⟩) a.sz).trans (I 3 aC);have f4:=(H.frozen (p:=⟨b,i*5+4,none⟩) a.sz).trans (I 4 aC);have K:=a.keep HX.out D H E N;clear F c0 c1 c2 c3 c4 I;go_wp2_with fail
     go_roundw
     case rel=>exact⟨i+1,j+1,_,by go_num,by go_num,K⟩
     case measure=>simp[intOf];omega
   .obtain rfl:j=l.length:=aa;have a5:0<l.length-i:=aa;have T:=a.len;obtain⟨f,a6,c6⟩:∃f:List ax,f.length=(l.length-i)*5/\∀J,(Builtin.clear_ #[84] J #[aj (some ⟨b,i*5,none⟩) (l.length-i) (c-i)]).run prog wr=.ok (aH #[]) (wr.setCells b (i*5) f):=by
     have a7:∀J,∃f:List ax,f.length=(l.length-i)*5/\(Builtin.clear_ #[84] J #[aj (some ⟨b,i*5,none⟩) (l.length-i) (c-i)]).run prog wr=.ok (aH #[]) (wr.setCells b (i*5) f):=λJ=>Kc wr J b (i*5) (l.length-i) (c-i) a5 (λm hm=>by
      obtain⟨r,M⟩:∃r,i*5+m=r:=⟨_,rfl⟩;rw[M];have a8:r/5<h.length:=aa;obtain⟨c0,c1,c2,c3,c4⟩:=a.row.c (r/5) h[r/5] (fD a8);have U:r % 5<5:=Nat.mod_lt _ aC;have er:r=r/5*5+r % 5:=aa;rw[er];generalize r % 5=z at U
      match z,U with
      |0,_=>rw[Nat.add_zero,c0];rfl
      |1,_=>rw[c1];rfl
      |2,_=>rw[c2];rfl
      |3,_=>rw[c3];rfl
      |4,_=>rw[c4];rfl) (λm hm=>a.row.f _ aa)
     obtain⟨f,o,h2⟩:=a7 0;exact⟨f,o,λJ=>h2⟩
    have c7:(i:Int)<(c:Int):=aa;have F:(i:Int)<(l.length:Int):=aa;have K:RH (wr.setCells b (i*5) f) b (l.filter λx=> !q x):=by
     have o:=a.row.setCells i f;rw[a.kept,gJ] at o;exact o
    have V:(l.filter λx=> !q x).length=i:=by
     have o:=a.kept;rw[gJ] at o;rw[<- o,iR];omega
    have HF:=aF V;have a9:=jd N f (i*5) wr a.EY;have b0:b<(wr.setCells b (i*5) f).heap.size:=by
     have:=(jd az f (i*5) wr (aW b wr)).size;have:=a.sz;omega
    clear V a6 T;go_wp2_with fail;go_ret;exact⟨by rw[HF.out];rfl,K,a9,b0⟩
theorem a88 (aB aS aZ:Addr)(y:Int)(l:List P5)(w:ai)(By:Nat)(d:∀x∈l,x.s.pts.length<=1000)(hP:lq w l)(hE:E3 aB aS aZ w)(b:w.cell? (aJ By 0)=some (ag y)):a81 w.heap.size 125 By w l (λx=> !bT x.s.pts y):=λx c V a=>
 Vs aB aS aZ x y By V (d x c) ((hP x c).below a az) (hE.below a az) ((a.cell (aX b)).trans b)
theorem ZV (l:List P5)(y:Int):sP (l.filter λx=> !!bT x.s.pts y)=(sP l).filter λs=>bT s.pts y:=by
 induction l with
 |nil=>rfl
 |cons a l b=>
  grind
theorem LW (a By:Nat)(b:∀(f:Array ax) (w:ai),Sem.run prog (callFunc a f) w=.ok (.enter a f) w)(w:ai):aL 123 #[aj none 0 0,rfV a By] w λe W=>e=ay (aj none 0 0)/\Below w.heap.size w W:=by
 have g:=RJ w.heap.size a By b (λ_=>false) [] none 0 w w aI (λi x c=>by simp at c) (aW _ _) az (λx c=>by cases c);go_enter func123,ntmps123;go_upto_region 2 with(go_at_call 184;refine g.mono ?_;rintro e m ⟨d,h⟩;obtain rfl:e=ay (ag (-1)):=(by rcases d with⟨-,j⟩|⟨k,x,l, -⟩;exact j;simp at l));go_wp2_with fail;go_ret;exact⟨rfl,h⟩
def yw (f:Nat->aO)(n k:Nat):Array ax:=((List.range n).map λx=>if x<k then Value.string (f x) else au ⟨#[]⟩).toArray
theorem Bt (f:Nat->aO)(n k i:Nat)(h:i<n):(yw f n k)[i]? =some (if i<k then Value.string (f i) else au ⟨#[]⟩):=by
 unfold yw;grind
theorem qI (f:Nat->aO)(n k:Nat):(yw f n k).size=n:=by simp[yw]
theorem a3L (f:Nat->aO)(n k:Nat)(h:k<n):(yw f n k).setIfInBounds k (au (f k))=yw f n (k+1):=by
 apply Array.ext_getElem?;intro i;by_cases a:i<n
 .rw[Bt f n (k+1) i a];by_cases e:k=i
  .subst e;rw[Array.getElem?_setIfInBounds_self_of_lt (by rw[qI];exact h),aR aa]
  .rw[Array.getElem?_setIfInBounds_ne e,Bt f n k i a];grind
 .rw[qK (by rw[Array.size_setIfInBounds,qI];omega),qK (by rw[qI];omega)]
theorem agR (f:Nat->aO)(n:Nat):madeCells (Value.string ⟨#[]⟩).cells n=yw f n 0:=by
 apply Array.ext_getElem?;intro i;by_cases a:i<n
 .rw[Bt f n 0 i a,aG aa];simp[madeCells,Value.cells,a,Nat.mod_one]
 .rw[qK (by simp[madeCells];omega),qK (by rw[qI];omega)]
theorem NL:(prog.info? 9).map (λi=>(i.zero,i.size,i.bytes))=some (some (au ⟨#[]⟩),1,16):=aA
theorem ZW (f:Nat->aO)(n:Nat)(w:ai)(g:n<=100):(Instr.makeSlice 22 (ag (n:Int)) (ag (n:Int))).run prog w=.ok (aj (some ⟨w.heap.size,0,none⟩) n n) (w.alloc (ak (yw f n 0) 9)):=by
 obtain⟨d,e,b,a,c⟩:=info_parts NL;have:=run_makeSlice (P:=prog) (w:=w) 22 9 d (au ⟨#[]⟩) underlying22 e b .i64 .i64 n n aa (Int.le_refl _) (by rw[a];omega) (by rw[c];omega) aa;rw[this,a,Int.toNat_natCast,Nat.mul_one,agR f n]
theorem ZX (f:Nat->aO)(n:Nat):(yw f n n).toList=((List.range n).map f).map au:=by
 unfold yw;rw[List.map_map];apply List.map_congr_left;grind
theorem LX (aB aS aZ aV:Addr)(l:List P5)(o:Option Addr)(m n:Nat)(y:Int)(w:ai)(hn:n<=100)(J:0<=y)(K:y<=100)(L:l.length<=1000)(h:EW w o m l)(hP:lq w l)(hk:∀x∈l,kE x.s)(hE:EP aB aS aZ aV w):
  aL 75 #[aj o l.length m,ag n,ag y] w λe W=>∃v,e=ay v/\W.ownsRow w.heap.size 9 1 v n ((uk bT (sP l) n y).map au)/\Below w.heap.size w W:=by
 have a:uk bT (sP l) n y=(List.range n).map λ(x:Nat)=>kz (sP (l.filter λx=> !!bT x.s.pts y)) (nP (x:Int) y):=by
  rw[ZV];rfl
 rw[a];clear a;obtain⟨c,p⟩:∃c,(l.filter λx=> !!bT x.s.pts y)=c:=⟨_,rfl⟩;rw[p];have j:=aF p;clear p;have t:=dz w (ak #[ag y] 3);have f:=(lg w (ag y) 3).1;go_enter func75,ntmps75;go_upto_region 1 with fail;obtain⟨U,hU⟩:∃U,w.alloc (ak #[ag y] 3)=U:=⟨_,rfl⟩;rw[hU] at t f⊢;clear hU;have q:=hP.below t az;have TN:=hE.below t az;have CL:=RI U o m l (h.below t) L
 go_cut [7] from 10 to 14 (λv wx=>∃E s,v=aj E c.length s/\kI wx E c/\Below U.heap.size U wx)
 case first=>
  go_wp2_with(go_at_call 124;refine CL.mono ?_;rintro e M ⟨v1,rfl,ES,N⟩);have b4:=q.below N az;have O:∀x∈l,x.s.pts.length<=1000:=λx d=>by have:=(hk x d).1.1;omega
  have AR:=a88 aB aS aZ y l U w.heap.size O q TN.e3 f;rcases ES.rw with⟨rfl,rfl⟩|⟨b,s,rfl,P,Q,S,T⟩
  .have DN:=LW 125 w.heap.size (tH _ _ func125 aA aA) M;go_wp2_with(go_at_call 123;refine DN.mono ?_;rintro e X ⟨rfl,u⟩)
   go_meet
   exact⟨none,0,by rw[<- j.out];rfl,λi x d=>by rw[<- j.out] at d;simp at d,aP N u⟩
  .have DF:=LV U.heap.size 125 w.heap.size (tH _ _ func125 aA aA) (λx=> !bT x.s.pts y) l b s U M L T P Q S N AR;go_wp2_with(go_at_call 123;refine DF.mono ?_;rintro e X ⟨rfl,z,u, -⟩)
   go_meet
   exact⟨some ⟨b,0,none⟩,s,by rw[<- j.out];simp,by rw[<- j.out];exact z.at_,u⟩
 case rest=>
  obtain⟨E,s,rfl,Y,F⟩:=hcut;have a4:lq wc c:=λx d=>(q.below F az) x (by rw[<- j.out] at d;exact(mD.1 d).1);have a5:∀x∈c,kE x.s:=λx d=>hk x (by rw[<- j.out] at d;exact(mD.1 d).1);have a6:c.length<=1000:=by rw[<- j.out];exact bO (List.length_filter_le _ _) L
  have a7:=TN.below F az;have g:=(F.cell (aX f)).trans f;clear j CL;have A:=aP t F;have MK:=ZW (λx=>kz (sP c) (nP (x:Int) y)) n wc hn;go_upto_region 3 with fail;have bM:=dz wc (ak (yw (λx=>kz (sP c) (nP (x:Int) y)) n 0) 9);have rM:=fE wc (ak (yw (λx=>kz (sP c) (nP (x:Int) y)) n 0) 9);obtain⟨V,hV⟩:∃V,wc.alloc (ak (yw (λx=>kz (sP c) (nP (x:Int) y)) n 0) 9)=V:=⟨_,rfl⟩;obtain⟨R,H⟩:∃R,wc.heap.size=R:=⟨_,rfl⟩;have B:w.heap.size<=R:=by rw[<- H];exact A.size
  have a8:=(bM.cell (aX g)).trans g;rw[hV] at bM rM a8⊢;rw[H] at rM⊢;have HR:=aF H;clear hV MK H;go_wp2_with fail
  go_loopw [18] (λi wr=>∃k:Nat,k<=n/\i=ag k/\wr.heap[R]? =some (ak (yw (λx=>kz (sP c) (nP (x:Int) y)) n k) 9)/\Below R wc wr) (λi _=>n-(intOf i).toNat)
  case atStart=>exact⟨0,bA _,rfl,rM,by rw[<- HR.out];exact bM⟩
  case round=>
   obtain⟨k,b5,rfl,a,hb⟩:=hrel;by_cases C:k<n
   .have b3:(k:Int)<(n:Int):=aa;have D:Below wc.heap.size wc wr:=by rw[HR.out];exact hb
    have a9:R<wr.heap.size:=(eY.1 a).1;obtain⟨ec,ip⟩:=a3H (x:=(k:Int)) (y:=y) aa aa J K;have CE:=Iz (k:Int) y wr aa aa aa aa;have bC:=LQ (k:Int) y wr;have b6:=(D.cell (aX g)).trans g;obtain⟨Z,hZ⟩:∃Z,((wr.alloc (ace (k:Int) y)).alloc (Iy (k:Int))).alloc (Iy y)=Z:=⟨_,rfl⟩;rw[hZ] at CE bC;have r:=aP D bC;have SA:=Rx aB aS aZ aV c E s (nP (k:Int) y) Z a6 (Y.below r az) (a4.below r az) a5 ip ec (a7.below r az);clear hZ;have HC:Hid (yw (λx=>kz (sP c) (nP (x:Int) y)) n (k+1)=(yw (λx=>kz (sP c) (nP (x:Int) y)) n k).setIfInBounds k (au (kz (sP c) (nP (k:Int) y)))):=(a3L (λx=>kz (sP c) (nP (x:Int) y)) n k C).symm;have c0:wr.cell? (aJ R k)=some (au ⟨#[]⟩):=by
     simp only[World.cell?,a];rw[Bt _ n k k C,aG (Nat.lt_irrefl k)];rfl
    have f0:wr.frozen? ⟨R,k,none⟩=false:=by
     unfold World.frozen?;rw[a];simp
    generalize kz (sP c) (nP (k:Int) y)=sh at SA HC;go_wp2_with(first|(go_at_call 127;refine SA.mono ?_;rintro e X ⟨rfl,u⟩;have I:=aP bC u;have c2:=(I.cell (aX c0)).trans c0;have f2:=(I.frozen (aX c0)).trans f0)|(go_at_call 128;refine CE.mono ?_;rintro e M ⟨rfl,rfl⟩))
    go_roundw
    case rel=>
     refine⟨k+1,aa,by go_num,?_,?_⟩
     .rw[HC.out];have:=heap_setCell_same X R k _ _ (au sh) (((I.block R a9)).trans a);exact this
     .exact(hb.trans (I.mono aa)).setCell az _
    case measure=>simp[intOf];omega
   .obtain rfl:k=n:=aa;go_wp2_with fail;go_ret;refine⟨_,rfl,⟨aI,.inr ⟨R,_,_,rfl,B,a,bJ _,by simp only[maxLen];omega,by rw[qI,Nat.mul_one],?_⟩⟩,A.trans (hb.mono B)⟩;rw[Nat.mul_one,jH (by rw[Array.length_toList,qI];exact bJ _)];exact ZX _ _
def nS (l:List P5):Prop:=∀x∈l,kE x.s
theorem CW (h:∃x∈l,¬kE x.s):¬nS l:=λa=>by
 obtain⟨x,b,c⟩:=h;exact c (a x b)
theorem acm (aB aS aZ j:Addr)(l:List P5)(o:Option Addr)(b n:Nat)(y:Int)(w:ai)(A:1<=n)(L:n<=40)(k:0<=y)(B:y<40)(t:l.length<=1000)(h:EW w o b l)(hP:lq w l)(hE:EP aB aS aZ j w):
  aL 149 #[aj o l.length b,ag n,ag y] w λe W=>((nS l/\∃v,e=ay (aH #[v,aY])/\W.ownsRow w.heap.size 9 1 v n ((uk bT (sP l) n y).map au))\/(¬nS l/\∃a,e=ay (aH #[aj none 0 0,aU 67 (.pointer (some a))])))/\Below w.heap.size w W:=by
 have u:=zM (n:Int) w;rw[show decide (1<=(n:Int)/\(n:Int)<=40)=true from by simp;omega] at u;have C:=ZU aB aS aZ j l o b w t h.at_ hP hE;have m:=λV (d:Below w.heap.size w V) (D:nS l)=>LX aB aS aZ j l o b n y V aa k aa t (h.below d) (hP.below d az) D (hE.below d az);go_enter func149,ntmps149;go_upto_region 4 with(first|(go_at_call 73;refine u.mono ?_;rintro e x ⟨rfl,rfl⟩)|(go_at_call 74;refine C.mono ?_;rintro e x ⟨E,i⟩;obtain⟨v,rfl,d⟩:∃v,e=ay v/\((nS l/\v=aY)\/(¬nS l/\∃a,v=aU 67 (.pointer (some a)))):=(by rcases E with⟨p,q⟩|⟨p,a,q⟩;exact⟨_,q,.inl ⟨p,rfl⟩⟩;exact⟨_,q,.inr ⟨CW p,a,rfl⟩⟩)));rcases d with⟨f,rfl⟩|⟨r,a,rfl⟩
 .have m:=m x i f;go_wp2_with(go_at_call 75;refine m.mono ?_;rintro e M ⟨v,rfl,z,F⟩);refine bg (results_tmp2 rfl _ _ _) rfl ?_;exact⟨.inl ⟨f,v,rfl,by
   refine⟨z.1,?_⟩;rcases z.2 with H|⟨g,c,s,I,J,K⟩
   .exact .inl H
   .exact .inr ⟨g,c,s,I,bO i.size J,K⟩⟩,aP i F⟩
 .go_wp2_with fail;refine bg (results_tmp2 rfl _ _ _) rfl ?_;exact⟨.inr ⟨r,a,rfl⟩,i⟩
theorem NM {w:ai}{x y z:ax}{t:TypeId}(h:w.heap[b]? =some (ak #[x,y,z] t))(a c d:ax):(((w.setCell ⟨b,0,none⟩ a).setCell ⟨b,1,none⟩ c).setCell ⟨b,2,none⟩ d).heap[b]? =some (ak #[a,c,d] t):=by
 have e:=heap_setCell_same w b 0 _ _ a h;have f:=heap_setCell_same _ b 1 _ _ c e;have g:=heap_setCell_same _ b 2 _ _ d f;rw[g];rfl
structure pF (w:ai)(b:Nat)(x y z:ax):Prop where
 c0:w.cell? (aJ b 0)=some x
 c1:w.cell? (aJ b 1)=some y
 c2:w.cell? (aJ b 2)=some z
 f0:w.frozen? ⟨b,0,none⟩=false
 f1:w.frozen? ⟨b,1,none⟩=false
 f2:w.frozen? ⟨b,2,none⟩=false
theorem pF.of {x y z:ax}{t:TypeId}(h:w.heap[b]? =some (ak #[x,y,z] t)):pF w b x y z:=by
 have a:∀j,w.frozen? ⟨b,j,none⟩=false:=λj=>by unfold World.frozen?;rw[h];simp
 exact⟨by simp[World.cell?,h],by simp[World.cell?,h],by simp[World.cell?,h],a 0,a 1,a 2⟩
theorem gz {a:Nat}{v:ax}(h:w.ownsRow A e d v n C)(f:a<=A):w.ownsRow a e d v n C:=by
 refine⟨h.1,?_⟩;rcases h.2 with i|⟨g,b,c,j,k,l⟩
 .exact .inl i
 .exact .inr ⟨g,b,c,j,bO f k,l⟩
theorem own_below {v:ax}(h:w.ownsRow A e d v n C)(f:Below w.heap.size w w'):w'.ownsRow A e d v n C:=by
 refine⟨h.1,?_⟩;rcases h.2 with i|⟨g,a,b,j,k,c,l⟩
 .exact .inl i
 .exact .inr ⟨g,a,b,j,k,(f.block g (eY.1 c).1).trans c,l⟩
theorem jN {v:ax}(h:w.ownsRow A e d v n C){p:Addr}(hp:p.block<A)(u:ax):(w.setCell p u).ownsRow A e d v n C:=by
 refine⟨h.1,?_⟩;rcases h.2 with c|⟨g,a,b,f,i,j,k⟩
 .exact .inl c
 .exact .inr ⟨g,a,b,f,i,(dw w p u g aa).trans j,k⟩
theorem Bu {g:Nat}{b a:Nat}(h:w.ownsRow A e 1 (aj (some ⟨g,0,none⟩) b a) n C):∀j u,C[j]? =some u->w.cell? ((⟨g,0,none⟩:Addr).add j)=some u:=λj u c=>World.ownsRow.cells h (g:=g) rfl j u c
theorem NP (l:List aO):∀u∈l.map Value.string,u.oneCell'=true:=λu a=>by
 obtain⟨s, -,rfl⟩:=gL.1 a;rfl
theorem ZY (aB aS aZ K:Addr)(l:List P5)(o:Option Addr)(d n h:Nat)(w:ai)(a4:1<=n)(hn:n<=40)(Ba:1<=h)(hh:h<=40)(hl:l.length<=1000)(hR:EW w o d l)(hP:lq w l)(hE:EP aB aS aZ K w):
  aL 39 #[aj o l.length d,ag n,ag h] w λe W=>((nS l/\∃v,e=ay (aH #[.agg #[ag n,ag h,v],aY])/\W.ownsRow w.heap.size 9 1 v (n*h) ((nM bT (sP l) n h).map au))\/(¬nS l/\∃f,Kb aB aS K l w.heap.size f W/\e=ay (aH #[.agg #[ag 0,ag 0,aj none 0 0],aU 67 (aK f)])))/\Below w.heap.size w W:=by
 have L:=dz w (ak #[ag 0,ag 0,aj none 0 0] 81);have Z:=fE w (ak #[ag 0,ag 0,aj none 0 0] 81);have IS:=λV=>zM (n:Int) V;rw[show decide (1<=(n:Int)/\(n:Int)<=40)=true from by simp;omega] at IS;have IH:=λV=>zM (h:Int) V;rw[show decide (1<=(h:Int)/\(h:Int)<=40)=true from by simp;omega] at IH;go_enter func39,ntmps39;go_upto_region 1 with fail;obtain⟨U,hU⟩:∃U,w.alloc (ak #[ag 0,ag 0,aj none 0 0] 81)=U:=⟨_,rfl⟩;rw[hU] at L Z⊢;clear hU;have c5:w.heap.size<U.heap.size:=(eY.1 Z).1;have CK:=xz aB aS aZ K l o d U hl (hR.below L).at_ (hP.below L az) (hE.below L az);go_upto_region 4 with(first|(go_at_call 74;refine CK.mono ?_;rintro e a ⟨hc,b1⟩;obtain⟨v,rfl,M⟩:∃v,e=ay v/\((nS l/\v=aY)\/(¬nS l/\∃f,Hid (Kb aB aS K l U.heap.size f a)/\v=aU 67 (aK f))):=(by rcases hc with⟨k1,k2⟩|⟨f,k1,k2⟩;exact⟨_,k2,.inl ⟨k1,rfl⟩⟩;exact⟨_,k2,.inr ⟨CW (by obtain⟨q,x,r,y, -,A, -⟩:=k1;exact⟨x,by rw[y];simp,A⟩),f,k1,rfl⟩⟩))|(go_at_call_of 73 (h:Int);refine(IH _).mono ?_;rintro e a ⟨rfl,N⟩;rw[N];clear N)|(go_at_call_of 73 (n:Int);refine(IS _).mono ?_;rintro e a ⟨rfl,N⟩;rw[N];clear N));clear CK IS IH;have zI:=aP L b1;have C:=(b1.block _ (eY.1 Z).1).trans Z;have q0:a.cell? ⟨w.heap.size,0,none⟩=some (ag 0):=by simp[World.cell?,C]
 have q1:a.cell? ⟨w.heap.size,1,none⟩=some (ag 0):=by simp[World.cell?,C]
 have q2:a.cell? ⟨w.heap.size,2,none⟩=some (aj none 0 0):=by simp[World.cell?,C]
 have z:∀j,a.frozen? ⟨w.heap.size,j,none⟩=false:=λj=>by unfold World.frozen?;rw[C];simp
 have z0:=z 0;have z1:=z 1;have z2:=z 2;rcases M with⟨O,rfl⟩|⟨a5,f,a6,rfl⟩
 .go_upto_region 7 with fail;have b2:=dz a (ak #[ag n,ag h,aj none 0 0] 81);have r2:=fE a (ak #[ag n,ag h,aj none 0 0] 81);have P:(a.alloc (ak #[ag n,ag h,aj none 0 0] 81)).heap.size=a.heap.size+1:=aI;obtain⟨V,D⟩:∃V,a.alloc (ak #[ag n,ag h,aj none 0 0] 81)=V:=⟨_,rfl⟩;obtain⟨B,Q⟩:∃B,a.heap.size=B:=⟨_,rfl⟩;have a7:w.heap.size<B:=by rw[<- Q];exact(eY.1 C).1
  have a8:=aP zI b2;rw[D] at r2 P a8⊢;have bB:Below B a V:=by rw[<- Q,<- D];exact b2
  rw[Q] at r2 P⊢;have HB:=aF Q;clear D Q b2 q0 q1 q2 z z0 z1 z2;obtain⟨i0,hi,a9,b3,b6⟩:=info_parts NL;go_wp2_with fail
  go_loopw [31] (λi wr=>∃(k:Nat) (v:ax),k<=h/\i=ag k/\wr.heap[B]? =some (ak #[ag n,ag h,v] 81)/\wr.ownsRow (B+1) 9 1 v (n*k) ((nM bT (sP l) n k).map au)/\Below B a wr) (λi _=>h-(intOf i).toNat)
  case atStart=>exact⟨0,_,bA _,rfl,r2,gp _ _ _ _,bB⟩
  case round=>
   obtain⟨k,v,hk,rfl,m,b,hb⟩:=hrel;have b7:Below a.heap.size a wr:=by rw[HB.out];exact hb
   have R:=aP zI b7;have b8:B<wr.heap.size:=(eY.1 m).1;obtain⟨c0,c1,c2,f0,f1,f2⟩:=pF.of m;by_cases c6:k<h
   .have c4:(k:Int)<(h:Int):=aa;have RO:=λV (M:Below w.heap.size w V)=>LX aB aS aZ K l o d n (k:Int) V aa aa aa hl (hR.below M) (hP.below M az) O (hE.below M az);have c7:n*k<=40*40:=Nat.mul_le_mul hn aa;go_upto_region 10 with fail;have c8:wr.drew.cell? (aJ B 2)=some v:=c2;have S:∀r,v.ownBlock=some r->B<r:=λr e=>by have:=(b.lt r e).1;omega
    have T:∀V,Below wr.heap.size wr V->aL 75 #[aj o l.length d,ag n,ag (k:Int)] V λe p=>∃I J,e=ay (aj (some ⟨I,0,none⟩) n J)/\p.ownsRow (B+1) 9 1 v (n*k) ((nM bT (sP l) n k).map au)/\p.ownsRow wr.heap.size 9 1 (aj (some ⟨I,0,none⟩) n J) n ((uk bT (sP l) n (k:Int)).map au)/\Below wr.heap.size wr p/\p.cell? (aJ B 2)=some v/\B+1<=p.heap.size:=λV D=>(RO V (aP R D)).mono (by
     rintro e p ⟨vr,rfl,s,E⟩;obtain⟨I,J,rfl, -, -⟩:=s.form aa;have b5:=aP D E;exact⟨I,J,rfl,own_below b b5,gz s D.size,b5,(b5.cell (aX c2)).trans c2,by have:=b5.size;omega⟩)
    have t:∀p F,Below wr.heap.size wr p->p.grownBy F v.ownBlock->F.heap[B]? =some (ak #[ag n,ag h,v] 81)/\Below B a F:=λp F E gr=>by
     have h4:=(E.block B b8).trans m;refine⟨(gr.block B (eY.1 h4).1 (λe=>by have:=S B e.symm;omega)).trans h4,?_⟩;exact(hb.trans (E.mono aa)).grown gr (by have:=E.size;omega) (λr e=>by have:=S r e;omega)
    clear RO
    go_region_law (first|(refine step_append_lies _ rfl (.tmp 35) (.tmp 39) 22 rfl (B+1) 9 i0 (au ⟨#[]⟩) 1 16 underlying22 hi a9 b3 b6 rfl aC v (n*k) ((nM bT (sP l) n k).map au) rfl Qw ⟨I,0,none⟩ n J ((uk bT (sP l) n (k:Int)).map au) rfl (by rw[dP,xw,Nat.mul_one]) (Bu s) (NP _) aa (by simp only[maxLen];omega) aa aa _ rfl ?_;intro g7 yt F kN lJ Ur c9;obtain⟨H,b9⟩:=t _ _ E lJ;obtain⟨-, -,d0, -, -,d1⟩:=pF.of H)|(go_simp;go_wp2_with(go_at_call 75;refine(T _ (by exact(aW _ _).drew)).mono ?_;rintro e p ⟨I,J,rfl,Qw,s,E,d2,d3⟩)))
    all_goals
     have u:(F.setCell ⟨B,2,none⟩ (aj (some ⟨g7,0,none⟩) (n*k+n) yt)).heap[B]? =some (ak #[ag n,ag h,aj (some ⟨g7,0,none⟩) (n*k+n) yt] 81):=by
      rw[heap_setCell_same F B 2 _ _ _ H];rfl
     have X:(nM bT (sP l) n (k+1)).map Value.string=(nM bT (sP l) n k).map Value.string++(uk bT (sP l) n (k:Int)).map Value.string:=by rw[xZ,iK]
     have Y:Hid (_/\_):=And.intro u X;have c3:=aF kN;clear u X kN lJ H t T Qw s;go_wp2_with fail
     go_roundw
     case rel=>
      refine⟨k+1,_,aa,by go_num,Y.out.1,?_,b9.setCell az _⟩;rw[Y.out.2,Nat.mul_succ];exact jN c3.out aI _
     case measure=>simp[intOf];omega
   .obtain rfl:k=h:=aa;have r3:=(hb.block w.heap.size a7).trans C;obtain⟨q0,q1,q2,z0,z1,z2⟩:=pF.of r3;obtain⟨g,cp,rfl,hg,d4⟩:=b.form (Nat.mul_pos a4 Ba);go_wp2_with fail;have r4:=NM r3 (ag n) (ag k) (aj (some ⟨g,0,none⟩) (n*k) cp);obtain⟨e0,y,A, -, -, -⟩:=pF.of r4;refine bg (v:=aH #[.agg #[ag n,ag k,aj (some ⟨g,0,none⟩) (n*k) cp],aY]) (by simp[results,results39,go_sem,e0,y,A]) rfl ?_;refine⟨.inl ⟨O,_,rfl,?_⟩,((R.setCell az _).setCell az _).setCell az _⟩;exact gz (jN (jN (jN b bq _) bq _) bq _) aa
 .go_wp2_with fail;have r3:=NM C (ag 0) (ag 0) (aj none 0 0);obtain⟨e0,y,A, -, -, -⟩:=pF.of r3;refine bg (v:=aH #[.agg #[ag 0,ag 0,aj none 0 0],aU 67 (aK f)]) (by simp[results,results39,go_sem,e0,y,A]) rfl ?_;obtain⟨q,x,r,y,A,e3,e4,⟨n0,e6⟩,e5⟩:=a6.out;have c:w.heap.size≠f:=aa;exact⟨.inr ⟨a5,f,⟨q,x,r,y,A,e3,aa,⟨n0,by rw[dh _ _ _ _ c,dh _ _ _ _ c,dh _ _ _ _ c];exact e6⟩,by rw[dh _ _ _ _ c,dh _ _ _ _ c,dh _ _ _ _ c];exact e5⟩,rfl⟩,((zI.setCell az _).setCell az _).setCell az _⟩
