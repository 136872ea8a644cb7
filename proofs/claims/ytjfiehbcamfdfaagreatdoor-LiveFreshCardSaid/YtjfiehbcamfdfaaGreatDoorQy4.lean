/-
  Parts of the proof.
-/
import Derived.Test.YtjfiehbcamfdfaaGreatDoorQy3
namespace Go.Proofs.YtjfiehbcamfdfaaGreatDoor
open Go.Proofs.Tryz
open Go.RowKit
set_option maxHeartbeats 2000000
def cells5:List P5->List Value
 |[]=>[]
 |a::r=>aa a.nd:: .slice a.o a.s.pts.length a.cap:: .string a.s.fill:: .string a.s.rule::aa a.lv::cells5 r
theorem zR:∀l:List P5,(cells5 l).length=l.length*5
 |[]=>rfl
 |x::r=>by simp[cells5,zR r];omega
theorem ug:∀(l:List P5) (i:Nat) (x:P5),l[i]? =some x->(cells5 l)[i*5]? =some (aa x.nd)/\(cells5 l)[i*5+1]? =some (.slice x.o x.s.pts.length x.cap)/\(cells5 l)[i*5+2]? =some (.string x.s.fill)/\(cells5 l)[i*5+3]? =some (.string x.s.rule)/\(cells5 l)[i*5+4]? =some (aa x.lv)
 |[],i,x,h=>by simp at h
 |y::r,0,x,h=>by simp at h;subst h;exact⟨rfl,rfl,rfl,rfl,rfl⟩
 |y::r,i+1,x,h=>by
  have h1:=ug r i x (by simpa using h);have e:(i+1)*5=i*5+5:=by omega
  rw[e];exact h1
theorem uh:∀(l:List P5) (j:Nat) (u:Value),(cells5 l)[j]? =some u->∃i x,l[i]? =some x/\((j=i*5/\u=aa x.nd)\/(j=i*5+1/\u=.slice x.o x.s.pts.length x.cap)\/(j=i*5+2/\u=.string x.s.fill)\/(j=i*5+3/\u=.string x.s.rule)\/(j=i*5+4/\u=aa x.lv))
 |[],j,u,h=>by simp[cells5] at h
 |x::r,0,u,h=>by simp[cells5] at h;exact⟨0,x,rfl,.inl ⟨rfl,h.symm⟩⟩
 |x::r,1,u,h=>by simp[cells5] at h;exact⟨0,x,rfl,.inr (.inl ⟨rfl,h.symm⟩)⟩
 |x::r,2,u,h=>by simp[cells5] at h;exact⟨0,x,rfl,.inr (.inr (.inl ⟨rfl,h.symm⟩))⟩
 |x::r,3,u,h=>by simp[cells5] at h;exact⟨0,x,rfl,.inr (.inr (.inr (.inl ⟨rfl,h.symm⟩)))⟩
 |x::r,4,u,h=>by simp[cells5] at h;exact⟨0,x,rfl,.inr (.inr (.inr (.inr ⟨rfl,h.symm⟩)))⟩
 |x::r,j+5,u,h=>by
  have h':(cells5 r)[j]? =some u:=by simpa[cells5] using h
  obtain⟨i,y,h1,h2⟩:=uh r j u h';refine⟨i+1,y,by simpa using h1,?_⟩;rcases h2 with⟨a,b⟩|⟨a,b⟩|⟨a,b⟩|⟨a,b⟩|⟨a,b⟩
  ·exact .inl ⟨by omega,b⟩
  ·exact .inr (.inl ⟨by omega,b⟩)
  ·exact .inr (.inr (.inl ⟨by omega,b⟩))
  ·exact .inr (.inr (.inr (.inl ⟨by omega,b⟩)))
  ·exact .inr (.inr (.inr (.inr ⟨by omega,b⟩)))
theorem LJ (l:List P5):∀u∈cells5 l,u.oneCell'=true:=fun u hu=>by
 obtain⟨j,hj⟩:=List.getElem?_of_mem hu;obtain⟨i,x, -,⟨-,rfl⟩|⟨-,rfl⟩|⟨-,rfl⟩|⟨-,rfl⟩|⟨-,rfl⟩⟩:=uh l j u hj<;>rfl
theorem Hy {w:World}{a:Addr}{l:List P5}(h:gG w (some a) l):∀j u,(cells5 l)[j]? =some u->w.cell? (a.add j)=some u:=fun j u hu=>by
 obtain⟨i,x,hx,h2⟩:=uh l j u hu;obtain⟨b,off,h3,c0,c1,c2,c3,c4⟩:=h i x hx;cases h3;rw[addr_add];rcases h2 with⟨rfl,rfl⟩|⟨rfl,rfl⟩|⟨rfl,rfl⟩|⟨rfl,rfl⟩|⟨rfl,rfl⟩
 ·exact c0
 ·rw[<- Nat.add_assoc];exact c1
 ·rw[<- Nat.add_assoc];exact c2
 ·rw[<- Nat.add_assoc];exact c3
 ·rw[<- Nat.add_assoc];exact c4
def Own5 (w:World)(base:Nat)(v:Value)(l:List P5):Prop:=w.ownsRow base 138 5 v l.length (cells5 l)
structure yF (w:World)(o:Option Addr)(cap:Nat)(l:List P5):Prop where
 at_:gG w o l
 le:l.length<=cap
 no:o=none->cap=0
theorem yF.below {w w':World}{o:Option Addr}{cap:Nat}{l:List P5}(h:yF w o cap l)(hb:Below w.heap.size w w'):yF w' o cap l:=⟨h.at_.below hb eU,h.le,h.no⟩
structure Dy (w:World)(b:Nat)(l:List P5):Prop where
 c:∀i x,l[i]? =some x->La w b (i*5) x
 f:∀j,j<l.length*5->w.frozen? ⟨b,j,none⟩=false
theorem Dy.at_ {w:World}{b:Nat}{l:List P5}(h:Dy w b l):gG w (some ⟨b,0,none⟩) l:=fun i x hx=>⟨b,0,rfl,by rw[Nat.zero_add];exact h.c i x hx⟩
theorem Dy.below {w w':World}{b:Nat}{l:List P5}(h:Dy w b l)(hb:Below w.heap.size w w')(hl:b<w.heap.size):Dy w' b l:=⟨fun i x hx=>(h.c i x hx).below hb eU,fun j hj=>(hb.frozen (p:=⟨b,j,none⟩) hl).trans (h.f j hj)⟩
theorem Own5.rw {w:World}{base:Nat}{v:Value}{l:List P5}(h:Own5 w base v l):(v=.slice none 0 0/\l=[])\/∃b cap,v=.slice (some ⟨b,0,none⟩) l.length cap/\base<=b/\b<w.heap.size/\l.length<=cap/\Dy w b l:=by
 have hO:=h;rcases h.2 with⟨rfl,h0⟩|⟨g,cap,cur,rfl,hg,hblk,hle,hsz,hfr⟩
 ·exact .inl ⟨rfl,List.length_eq_zero_iff.1 h0⟩
 ·refine .inr ⟨g,cap,rfl,hg,(Array.getElem?_eq_some_iff.1 hblk).1,hle,?_,?_⟩
  ·intro i x hx;have hc:∀j u,(cells5 l)[j]? =some u->w.cell? (ag g j)=some u:=fun j u hj=>by
    have:=World.ownsRow.cells hO (g:=g) rfl j u hj;rw[addr_add,Nat.zero_add] at this;exact this
   obtain⟨h0,h1,h2,h3,h4⟩:=ug l i x hx;exact⟨hc _ _ h0,hc _ _ h1,hc _ _ h2,hc _ _ h3,hc _ _ h4⟩
  ·intro j hj;unfold World.frozen?;rw[hblk];simp
theorem a2l:(prog.info? 138).map (fun i=>(i.zero,i.size,i.bytes))=some (some (.agg #[aa 0,.slice none 0 0,.string ⟨#[]⟩,.string ⟨#[]⟩,aa 0]),5,72):=by kernel_rfl
theorem Hz (w:World)(o:Option Addr)(cap:Nat)(l:List P5)(h:yF w o cap l)(hl:l.length<=1000):
  ak 85 #[.slice o l.length cap] w fun e w'=>∃v,e=.returned v/\Own5 w' w.heap.size v l/\Below w.heap.size w w':=by
 have q22:∀(w:World) (a:Option Addr) (n c n' c':Nat),(binOp .eql 73 (.slice a n c) (.slice none n' c')).run prog w=.ok (.bool a.isNone) w:=fun w a n c n' c'=>Lib.run_eql_slice_nil w _ _ a n c n' c' underlying73;obtain⟨i0,hi,hz0,hz1,hz2⟩:=info_parts a2l;cases o with
 |none=>
  have hc:=h.no rfl;have hz:l=[]:=List.length_eq_zero_iff.1 (by have:=h.le;omega);subst hz;go_enter func85,ntmps85;go_wp2_with fail;go_ret;exact⟨_,rfl,World.ownsRow_nil _ _ _ _,Below.refl _ _⟩
 |some a=>
  have HN:Hid (∀j u,(cells5 l)[j]? =some u->(w.alloc (.cells #[] 138)).cell? (a.add j)=some u):=fun j u hj=>((aL w (.cells #[] 138)).cell (ay (Hy h.at_ j u hj))).trans (Hy h.at_ j u hj);have hcap:=h.le;go_enter func85,ntmps85;go_wp2_with(at_builtin;refine wpList_append_own _ rfl _ _ 73 rfl w.heap.size 138 i0 (.agg #[aa 0,.slice none 0 0,.string ⟨#[]⟩,.string ⟨#[]⟩,aa 0]) 5 72 underlying73 hi hz0 hz1 hz2 rfl (by decide) _ _ _ rfl (World.ownsRow_made w #[] 0 eU (Nat.zero_le _) (by simp)) a l.length cap (cells5 l) rfl (zR l) HN.out (LJ l) (by simp only[maxLen];omega) (by omega) (by simp) ?_;intro v7 w7 jQ lU _);go_ret;refine⟨_,rfl,?_,((Below.refl _ w).alloc eU _).grown lU (by simp) (fun k hk=>by have hk':some w.heap.size=some k:=hk;cases hk';exact Nat.le_refl _)⟩;simpa[Own5] using jQ
end Go.Proofs.YtjfiehbcamfdfaaGreatDoor
