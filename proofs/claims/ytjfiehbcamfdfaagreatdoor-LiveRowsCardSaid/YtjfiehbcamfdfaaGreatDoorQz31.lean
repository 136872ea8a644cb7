/- Parts of the proof. -/
import Derived.Test.YtjfiehbcamfdfaaGreatDoorQz30
namespace Go.Proofs.YtjfiehbcamfdfaaGreatDoor
open Go.Proofs.Tryz
set_option maxHeartbeats 4000000
section
open Go.RowKit
set_option maxRecDepth 20000
def qN (M:Dm)(n:Int)(nm v:Bs):Except Nat Dm:=match M n with
 |none=>.error 5
 |some e=>if fP nm=false then .error 4 else if isVal v=false then .error 10 else if(jk e.ats nm).isSome=false/\12<=e.ats.length then .error 7 else .ok (lK M n e (iQ e.ats nm v))
def xL (E:Nat->Addr)(B:Nat)(tg:bf)(W:ag)(DB MB:Nat)(p:Int->Option Nat)(nx c:Nat)(x:Except Nat Dm)(e:Ending)(w':ag):Prop:=match x with
 | .error k=>e=.returned (.iface 390 (.pointer (some (E k))))/\Below W.heap.size W w'
 | .ok M'=>e=.returned .nilIface/\KT tg W w'/\∃gF,(∀x,x<W.heap.size->gF x=tg x)/\aO B gF w' DB MB p M' nx c
theorem Co {w:ag}{B k n g cap:Nat}{e:TypeId}{xs:List ah}(h:w.ownsRow B e k (.slice (some ⟨g,0,none⟩) n cap) n xs)(j:Nat)(v:ah):(w.setCell ⟨g,j,none⟩ v).ownsRow B e k (.slice (some ⟨g,0,none⟩) n cap) n (xs.set j v):=by
 obtain⟨h1,h2⟩:=h;refine⟨by rw[List.length_set];exact h1,?_⟩;rcases h2 with⟨h2,_⟩|⟨g',cap',cur,h3,h4,h5,h6,h7,h8,h9⟩
 ·cases h2
 ·cases h3;refine .inr ⟨g,cap,cur.setIfInBounds j v,rfl,h4,heap_setCell_same w g j cur e v h5,h6,h7,by simpa using h8,?_⟩;rw[<- h9,Array.toList_setIfInBounds,List.take_set]
theorem xM {w:ag}{B k n g cap:Nat}{e:TypeId}{xs:List ah}(h:w.ownsRow B e k (.slice (some ⟨g,0,none⟩) n cap) n xs)(j:Nat):w.frozen? ⟨g,j,none⟩=false:=by
 rcases h.2 with⟨h2,_⟩|⟨g',cap',cur,h3,h4,h5, -⟩
 ·cases h2
 ·cases h3;exact aR h5 j
section
variable {E:Nat->Addr}{B:Nat}{tg:bf}{W:ag}{DB MB:Nat}{p:Int->Option Nat}{M:Dm}{nx c:Nat}
theorem a1b (hE:DE E W)(h:aO B tg W DB MB p M nx c)(hB:B<=W.heap.size)(n:Int)(hn:bA n)(nm v:Bs)(hnl:nm.length<=1000000)(hvl:v.length<=1000000):
  ax 60 #[ay DB,aa n,.string ⟨nm.toArray⟩,.string ⟨v.toArray⟩] W fun e w'=>xL E B tg W DB MB p nx c (qN M n nm v) e w':=by
 have d0:=h.d0;have k4:=hE.c4;have k5:=hE.c5;have k10:=hE.c10;unfold qN;cases hm:M n with
 |none=>
  have hp:=h.non n hm;simp only;go_enter func60,ntmps60;go_wp2_with(at_lookup;refine iB _ rfl _ _ 83 rfl underlying3 underlying83 (aW _) rfl h.map n rfl hn hp ?_);go_ret;exact⟨rfl,Below.refl _ _⟩
 |some e=>
  obtain⟨EB,va,vk,hp,he⟩:=h.els n e hm;have IN:=gm ⟨nm.toArray⟩ (by show nm.length<=_;omega) W;have IV:=yu ⟨v.toArray⟩ (by show v.length<=_;omega) W;simp only at IN IV;simp only;cases hnm:fP nm with
  |false=>
   rw[hnm] at IN;rw[if_pos rfl];go_enter func60,ntmps60;go_wp2_with(first|(at_lookup;refine bu _ rfl _ _ 83 rfl underlying3 underlying83 (aW _) rfl h.map n rfl hn EB hp ?_)|(go_at_call 102;refine IN.mono ?_;rintro e1 w1 ⟨rfl,rfl⟩));go_ret;exact⟨rfl,Below.refl _ _⟩
  |true=>
   rw[hnm] at IN;rw[if_neg (by simp)];cases hvv:isVal v with
   |false=>
    rw[hvv] at IV;rw[if_pos rfl];go_enter func60,ntmps60;go_wp2_with(first|(at_lookup;refine bu _ rfl _ _ 83 rfl underlying3 underlying83 (aW _) rfl h.map n rfl hn EB hp ?_)|(go_at_call 102;refine IN.mono ?_;rintro e1 w1 ⟨rfl,rfl⟩)|(go_at_call 111;refine IV.mono ?_;rintro e1 w1 ⟨rfl,rfl⟩));go_ret;exact⟨rfl,Below.refl _ _⟩
   |true=>
    rw[hvv] at IV;rw[if_neg (by simp)];have PO:=qC he nm;have hlen:e.ats.length<=maxLen:=by
     obtain⟨o,cap, -,h2,h3, -⟩:=bS he.ats;omega
    rcases ru e.ats nm 0 with⟨hf,hat⟩|⟨i,x,hf,hix,hat⟩
    ·rw[hf] at PO;rw[hat];obtain⟨ov,kv,JE⟩:=aH he.ats;subst JE;by_cases h12:12<=e.ats.length
     ·rw[if_pos ⟨rfl,h12⟩];have h12z:(12:Int)<=(e.ats.length:Int):=by omega
      have C1:∀w1,Below W.heap.size W w1->w1.cell? (ak EB 1)=some (.slice ov e.ats.length kv)/\w1.cell? (ak 2 0)=some (.iface 390 (.pointer (some (E 7)))):=fun w1 b1=>⟨(b1.cell (az he.c1)).trans he.c1,(b1.cell (az hE.c7)).trans hE.c7⟩;go_enter func60,ntmps60;go_wp2_with(first|(at_lookup;refine bu _ rfl _ _ 83 rfl underlying3 underlying83 (aW _) rfl h.map n rfl hn EB hp ?_)|(go_at_call 102;refine IN.mono ?_;rintro e1 w1 ⟨rfl,rfl⟩)|(go_at_call 111;refine IV.mono ?_;rintro e1 w1 ⟨rfl,rfl⟩)|(go_at_call 35;refine PO.mono ?_;rintro e1 w1 ⟨rfl,b1⟩;obtain⟨q1,q7⟩:=C1 w1 b1));go_ret;exact⟨rfl,b1⟩
     ·rw[if_neg (fun hh=>h12 hh.2)];have h12z:(e.ats.length:Int)<12:=by omega
      obtain⟨i0,hi,hz0,hz1,hz2⟩:=info_parts vB;have C1:∀w1,Below W.heap.size W w1->w1.cell? (ak EB 1)=some (.slice ov e.ats.length kv):=fun w1 b1=>(b1.cell (az he.c1)).trans he.c1;have OW:∀w1,Below W.heap.size W w1->(w1.alloc (.cells #[.string ⟨nm.toArray⟩,.string ⟨v.toArray⟩] 65)).ownsRow B 65 2 (.slice ov e.ats.length kv) e.ats.length (aL e.ats):=fun w1 b1=>World.ownsRow.alloc (aP he.ats b1) _;have ZT:some EB≠(Value.slice ov e.ats.length kv).ownBlock:=fun e1=>by have h1:=he.jH EB e1.symm;rw[he.tag] at h1;cases h1
      have E7:∀w1,Below W.heap.size W w1->∀w7,(w1.alloc (.cells #[.string ⟨nm.toArray⟩,.string ⟨v.toArray⟩] 65)).grownBy w7 (Value.slice ov e.ats.length kv).ownBlock->w7.heap[EB]? =some (.cells #[.string ⟨e.name.toArray⟩,.slice ov e.ats.length kv,aa e.parent,vk] 90):=fun w1 b1 w7 gr=>by
       have b2:=aG b1 (di w1 (.cells #[.string ⟨nm.toArray⟩,.string ⟨v.toArray⟩] 65));exact(gr.block EB (Nat.lt_of_lt_of_le (aM he.cells) b2.size) ZT).trans ((b2.block EB (aM he.cells)).trans he.cells)
      go_enter func60,ntmps60;go_upto_region 14 with(first|(at_lookup;refine bu _ rfl _ _ 83 rfl underlying3 underlying83 (aW _) rfl h.map n rfl hn EB hp ?_)|(go_at_call 102;refine IN.mono ?_;rintro e1 w1 ⟨rfl,rfl⟩)|(go_at_call 111;refine IV.mono ?_;rintro e1 w1 ⟨rfl,rfl⟩)|(go_at_call 35;refine PO.mono ?_;rintro e1 w1 ⟨rfl,b1⟩;have q1:=C1 w1 b1;have Aa:=OW w1 b1;have H0:=cZ w1 #[.string ⟨nm.toArray⟩,.string ⟨v.toArray⟩] 65;have hs1:=b1.size));go_wp2_with(at_builtin;(refine wpList_append_own_at _ rfl _ _ 22 rfl B 65 i0 (.agg #[.string ⟨#[]⟩,.string ⟨#[]⟩]) 2 32 underlying22 hi hz0 hz1 hz2 rfl (by decide) _ _ _ rfl Aa ⟨w1.heap.size,0,none⟩ 1 1 [.string ⟨nm.toArray⟩,.string ⟨v.toArray⟩] rfl rfl (World.news_of_block H0) (fun u hu=>by simp at hu;rcases hu with rfl|rfl<;>rfl) (by simp only[maxLen];omega) (by omega) (by simp;omega) ?_;intro v7 w7 kF gr8 _ at8;obtain⟨o7,c7,rfl⟩:=aH kF;have gr8:(w1.alloc (.cells #[.string ⟨nm.toArray⟩,.string ⟨v.toArray⟩] 65)).grownBy w7 (Value.slice ov e.ats.length kv).ownBlock:=gr8;have at8:(Value.slice o7 (e.ats.length+1) c7).ownBlock=(Value.slice ov e.ats.length kv).ownBlock\/(Value.slice o7 (e.ats.length+1) c7).ownBlock=some (w1.alloc (.cells #[.string ⟨nm.toArray⟩,.string ⟨v.toArray⟩] 65)).heap.size:=at8;clear gr8 at8;have e7:=E7 w1 b1 w7 gr8;have e70:=aF e7 1 _ rfl;have e7f:=aR e7));go_ret;have b2:=aG b1 (di w1 (.cells #[.string ⟨nm.toArray⟩,.string ⟨v.toArray⟩] 65));have ow8:w7.ownsRow B 65 2 (.slice o7 (e.ats.length+1) c7) (iQ e.ats nm v).length (aL (iQ e.ats nm v)):=by
       rw[Qm e.ats nm v hat,yx,List.length_append];exact kF
      have ne7:(Value.slice o7 (e.ats.length+1) c7).ownBlock≠some EB:=fun e1=>by
       rcases at8 with h1|h1
       ·exact ZT (e1.symm.trans h1)
       ·rw[h1] at e1;have:=aM he.cells;have:=b2.size;cases e1;omega
      have r1:=h.a4E hm hp he (w8:=w7.setCell ⟨EB,1,none⟩ (.slice o7 (e.ats.length+1) c7)) (v7:=.slice o7 (e.ats.length+1) c7) (L:=iQ e.ats nm v) (by rw[heap_setCell_same w7 EB 1 _ _ _ e7];rfl) (bT ow8 fun g hg=>Below.heap_setCell _ _ _ g (fun e1=>ne7 (by rw[hg,e1]))) (at8.imp id fun h1 g hg=>by rw[h1] at hg;cases hg;exact b2.size) (gr8.os.trans b2.os) (gr8.tape.trans b2.tape) (gr8.output.trans b2.output) (by rw[World.size_setCell];exact Nat.le_trans b2.size gr8.size) (fun x hx h1 h2=>by rw[Below.heap_setCell _ _ _ x h1,gr8.block x (Nat.lt_of_lt_of_le hx b2.size) (fun e1=>h2 e1.symm),b2.block x hx]);exact⟨rfl,r1.2.2,_,r1.2.1,r1.1⟩
    ·rw[Nat.zero_add] at hf;rw[hf] at PO;rw[hat,if_neg (fun hh=>by simp at hh)];obtain⟨hset, -,hx1⟩:=GG e.ats nm v 0 i (by rw[hf,Nat.zero_add]);obtain⟨hil, -⟩:=List.getElem?_eq_some_iff.1 hix;obtain⟨g,hg, -⟩:=bO he.ats _ _ (j5 hix).2;obtain⟨ov,kv,JE,hkv,hkm, -,h5⟩:=bS he.ats;have hov:=h5 g hg;subst JE hov;have hiz:(i:Int)<(e.ats.length:Int):=by omega
     have hkz:(e.ats.length:Int)<=(kv:Int):=by omega
     have neG:g≠EB:=fun e1=>by have h1:=he.jH g hg;rw[e1,he.tag] at h1;cases h1
     have C1:∀w1,Below W.heap.size W w1->w1.cell? (ak EB 1)=some (.slice (some ⟨g,0,none⟩) e.ats.length kv)/\w1.cell? (ak g (i*2+1))=some (.string ⟨x.2.toArray⟩)/\w1.frozen? ⟨g,i*2+1,none⟩=false:=fun w1 b1=>by
      obtain⟨g',hg',hc⟩:=bO (aP he.ats b1) _ _ (j5 hix).2;rw[hg] at hg';cases hg';exact⟨(b1.cell (az he.c1)).trans he.c1,hc,xM (aP he.ats b1) _⟩
     go_enter func60,ntmps60;go_wp2_with(first|(at_lookup;refine bu _ rfl _ _ 83 rfl underlying3 underlying83 (aW _) rfl h.map n rfl hn EB hp ?_)|(go_at_call 102;refine IN.mono ?_;rintro e1 w1 ⟨rfl,rfl⟩)|(go_at_call 111;refine IV.mono ?_;rintro e1 w1 ⟨rfl,rfl⟩)|(go_at_call 35;refine PO.mono ?_;rintro e1 w1 ⟨rfl,b1⟩;obtain⟨q1,q2,q3⟩:=C1 w1 b1));go_ret;have ow8:=Co (aP he.ats b1) (i*2+1) (.string ⟨v.toArray⟩);rw[Cn e.ats i nm v hx1,<- hset] at ow8;have hl8:e.ats.length=(iQ e.ats nm v).length:=by rw[hset,List.length_set]
     have hE8:(w1.setCell ⟨g,i*2+1,none⟩ (.string ⟨v.toArray⟩)).heap[EB]? =some (.cells #[.string ⟨e.name.toArray⟩,.slice (some ⟨g,0,none⟩) e.ats.length kv,aa e.parent,vk] 90):=(Below.heap_setCell _ _ _ EB (fun e1=>neG e1.symm)).trans ((b1.block EB (aM he.cells)).trans he.cells);have hsz:=World.size_setCell w1 ⟨g,i*2+1,none⟩ (.string ⟨v.toArray⟩);have hst:=(Below.refl g w1).setCell (p:=⟨g,i*2+1,none⟩) ai (.string ⟨v.toArray⟩);have r1:=h.a4E hm hp he (L:=iQ e.ats nm v) hE8 (by rw[<- hl8];exact ow8) (.inl rfl) (hst.os.trans b1.os) (hst.tape.trans b1.tape) (hst.output.trans b1.output) (by rw[hsz];exact b1.size) (fun y hy h1 h2=>by rw[Below.heap_setCell _ _ _ y (fun e1=>h2 (by rw[hg,e1])),b1.block y hy]);exact⟨rfl,r1.2.2,_,r1.2.1,r1.1⟩
end
section
variable {B k n g cap:Nat}{e:TypeId}
theorem F4:∀(vs:List ah) (o:Nat) (w:ag) (xs:List ah),w.ownsRow B e k (.slice (some ⟨g,0,none⟩) n cap) n xs->o+vs.length<=xs.length->(w.setCells g o vs).ownsRow B e k (.slice (some ⟨g,0,none⟩) n cap) n (xs.take o++vs++xs.drop (o+vs.length))
 |[],o,w,xs,h,_=>by simpa[World.setCells] using h
 |v::vs,o,w,xs,h,hl=>by
  simp only[List.length_cons] at hl;have h1:=F4 vs (o+1) (w.setCell ⟨g,o,none⟩ v) (xs.set o v) (Co h o v) (by rw[List.length_set];omega);rw[List.take_add_one,List.take_set_of_le ai,List.getElem?_set_self (by omega),List.drop_set_of_lt (by omega)] at h1;rw[List.length_cons,show o+(vs.length+1)=o+1+vs.length from by omega];simpa[World.setCells] using h1
theorem a1d {w:ag}{xs:List ah}(h:w.ownsRow B e k (.slice (some ⟨g,0,none⟩) n cap) n xs){m:Nat}(hm:m<=n):w.ownsRow B e k (.slice (some ⟨g,0,none⟩) m cap) m (xs.take (m*k)):=by
 have hk:m*k<=n*k:=Nat.mul_le_mul_right k hm;refine⟨by rw[List.length_take,h.1];omega,?_⟩;rcases h.2 with⟨h2,_⟩|⟨g',cap',cur,h3,h4,h5,h6,h7,h8,h9⟩
 ·cases h2
 ·cases h3;exact .inr ⟨g,cap,cur,rfl,h4,h5,by omega,h7,h8,by rw[<- h9,List.take_take,Nat.min_eq_left hk]⟩
theorem KS {w:ag}{xs:List ah}(h:w.ownsRow B e k (.slice (some ⟨g,0,none⟩) n cap) n xs):∀(vs:List ah) (j:Nat),n*k<=j->(w.setCells g j vs).ownsRow B e k (.slice (some ⟨g,0,none⟩) n cap) n xs
 |[],_,_=>h
 |v::vs,j,hj=>by
  have h1:=Co h j v;rw[List.set_eq_of_length_le (by rw[h.1];exact hj)] at h1;exact KS h1 vs (j+1) (by omega)
end
theorem lF (g:Nat):∀(vs:List ah) (o:Nat) (w:ag) (x:Nat),x≠g->(w.setCells g o vs).heap[x]? =w.heap[x]?
 |[],_,_,_,_=>rfl
 |v::vs,o,w,x,hx=>(lF g vs (o+1) (w.setCell ⟨g,o,none⟩ v) x hx).trans (Below.heap_setCell _ _ _ x hx)
theorem setCells_size (g:Nat):∀(vs:List ah) (o:Nat) (w:ag),(w.setCells g o vs).heap.size=w.heap.size
 |[],_,_=>rfl
 |v::vs,o,w=>(setCells_size g vs (o+1) (w.setCell ⟨g,o,none⟩ v)).trans (World.size_setCell _ _ _)
theorem DC (w:ag)(ty:TypeId)(b o c:Nat)(hc:∀j,j<2->(w.cell? (ak b (o+j))).isSome=true)(hf:∀j,j<2->w.frozen? ⟨b,o+j,none⟩=false):
  (Builtin.clear_ #[22] ty #[.slice (some ⟨b,o,none⟩) 1 c]).run prog w=.ok (.tuple #[]) (w.setCells b o [.string ⟨#[]⟩,.string ⟨#[]⟩]):=by
 have hv:∀w,(zeroValue 65).run prog w=.ok (.agg #[.string ⟨#[]⟩,.string ⟨#[]⟩]) w:=fun w=>by kernel_rfl
 have hz:Builtin.zeroCells (Value.agg #[.string ⟨#[]⟩,.string ⟨#[]⟩]).cells 1=#[.string ⟨#[]⟩,.string ⟨#[]⟩]:=by kernel_rfl
 have hst:=run_storeCells_cells (P:=prog) b o [.string ⟨#[]⟩,.string ⟨#[]⟩] 0 w (by simpa using hc) (by simpa using hf) (fun v hv=>by simp at hv;rw[hv];rfl);simp only[Nat.add_zero] at hst;simp[Builtin.clear_,run_underlying underlying22,hv,hz,hst]
theorem TN (l:List (Bs×Bs))(i:Nat)(hi:i<l.length):((aL l).take (i*2)++aL (l.drop (i+1))++(aL l).drop (i*2+(aL (l.drop (i+1))).length)).take ((l.length-1)*2)=aL (l.take i++l.drop (i+1)):=by
 have h1:aL l=aL (l.take i)++aL (l.drop i):=by rw[<- iN,List.take_append_drop]
 have h2:(aL (l.take i)).length=i*2:=by rw[gZ,List.length_take];omega
 have h3:(aL (l.drop (i+1))).length=(l.length-(i+1))*2:=by rw[gZ,List.length_drop]
 have h4:(aL l).take (i*2)=aL (l.take i):=by rw[h1,List.take_append_of_le_length (by omega),List.take_of_length_le (by omega)]
 rw[iN,h4,List.take_append_of_le_length (by rw[List.length_append];omega),List.take_of_length_le (by rw[List.length_append];omega)]
theorem a1e {B:Nat}(w:ag)(g cap i I1:Nat)(l:List (Bs×Bs))(h:w.ownsRow B 65 2 (.slice (some ⟨g,0,none⟩) l.length cap) l.length (aL l))(hi:i<l.length)(hI:i+1=I1):
  ax 112 #[.slice (some ⟨g,0,none⟩) l.length cap,aa i,aa I1] w fun e w'=>e=.returned (.slice (some ⟨g,0,none⟩) (l.length-1) cap)/\w'.ownsRow B 65 2 (.slice (some ⟨g,0,none⟩) (l.length-1) cap) (l.length-1) (aL (l.take i++l.drop (i+1)))/\w'.os=w.os/\w'.tape=w.tape/\w'.output=w.output/\w'.heap.size=w.heap.size/\∀x,x≠g->w'.heap[x]? =w.heap[x]? :=by
 obtain⟨i0,hi0,hz0,hz1,hz2⟩:=info_parts vB;obtain⟨o',c',ho',hcap,hm, -, -⟩:=bS h;cases ho';obtain⟨news,hnews⟩:∃news,news=aL (l.drop I1):=⟨_,rfl⟩;have hlen:news.length=(l.length-I1)*2:=by rw[hnews,gZ,List.length_drop]
 have hcl:=gZ l;have GH:∀j,j<l.length*2->∃u,(aL l)[j]? =some u/\w.cell? (ak g j)=some u:=fun j hj=>by
  obtain⟨u,hu⟩:∃u,(aL l)[j]? =some u:=⟨_,List.getElem?_eq_getElem (by omega)⟩;obtain⟨g',hg',hc⟩:=bO h j u hu;cases hg';exact⟨u,hu,hc⟩
 have hfz:=xM h;obtain⟨A,hA,hsrc⟩:∃A:Addr,(if cap=I1 then some (⟨g,0,none⟩:Addr) else some ⟨g,I1*2,none⟩)=some A/\Hid (∀t u,news[t]? =some u->w.drew.cell? (A.add t)=some u):=by
  by_cases hc:cap=I1
  ·refine⟨⟨g,0,none⟩,by simp[hc],fun t u hu=>?_⟩;have h0:news.length=0:=by rw[hlen];omega
   rw[List.length_eq_zero_iff.1 h0] at hu;simp at hu
  ·refine⟨⟨g,I1*2,none⟩,by simp[hc],fun t u hu=>?_⟩;have ht:t<news.length:=(List.getElem?_eq_some_iff.1 hu).1;obtain⟨u',hu',hc'⟩:=GH (I1*2+t) (by omega);have:u=u':=by
    have h1:aL l=aL (l.take I1)++aL (l.drop I1):=by rw[<- iN,List.take_append_drop]
    rw[h1,List.getElem?_append_right (by rw[gZ,List.length_take];omega),gZ,List.length_take,Nat.min_eq_left (by omega),Nat.add_sub_cancel_left,<- hnews,hu] at hu';exact Option.some.inj hu'
   subst this;have hadd:(⟨g,I1*2,none⟩:Addr).add t=⟨g,I1*2+t,none⟩:=by unfold Addr.add;split<;>simp_all
   rw[hadd];exact hc'
 have s1:=aj hlen;have s2:Hid (∀u∈news,u.oneCell'=true):=(by rw[hnews];exact AV _:∀u∈news,u.oneCell'=true);have s3:Hid (∀t,t<news.length->(w.drew.cell? (ak g (0+i*2+t))).isSome=true/\w.drew.frozen? ⟨g,0+i*2+t,none⟩=false):=fun t ht=>by
  rw[Nat.zero_add];obtain⟨u, -,hc⟩:=GH (i*2+t) (by omega);exact⟨by show(w.cell? _).isSome=true;rw[hc];rfl,hfz _⟩
 obtain⟨W1,hW1⟩:∃W1,W1=w.drew.setCells g (0+i*2) news:=⟨_,rfl⟩;have hW:=aj hW1;have hd:w.drew.ownsRow B 65 2 (.slice (some ⟨g,0,none⟩) l.length cap) l.length (aL l):=h;have Aa:W1.ownsRow B 65 2 (.slice (some ⟨g,0,none⟩) l.length cap) l.length ((aL l).take (i*2)++news++(aL l).drop (i*2+news.length)):=by
  rw[hW1,Nat.zero_add];exact F4 news (i*2) w.drew (aL l) hd (by omega)
 have hl1:=Aa.1;have cl1:∀ty,(Builtin.clear_ #[22] ty #[.slice (some ⟨g,(i+(l.length-I1))*2,none⟩) (l.length-(i+(l.length-I1))) (cap-(i+(l.length-I1)))]).run prog W1=.ok (.tuple #[]) (W1.setCells g ((i+(l.length-I1))*2) [.string ⟨#[]⟩,.string ⟨#[]⟩]):=fun ty=>by
  rw[show l.length-(i+(l.length-I1))=1 from by omega];refine DC W1 ty g _ _ (fun j hj=>?_) (fun j _=>xM Aa _);obtain⟨u,hu⟩:∃u,((aL l).take (i*2)++news++(aL l).drop (i*2+news.length))[(i+(l.length-I1))*2+j]? =some u:=⟨_,List.getElem?_eq_getElem (by omega)⟩;obtain⟨g',hg',hc⟩:=bO Aa _ u hu;cases hg';rw[hc];rfl
 have FIN:Hid ((W1.setCells g ((i+(l.length-I1))*2) [.string ⟨#[]⟩,.string ⟨#[]⟩]).ownsRow B 65 2 (.slice (some ⟨g,0,none⟩) (l.length-1) cap) (l.length-1) (aL (l.take i++l.drop (i+1)))/\W1.heap.size=w.heap.size/\∀x,x≠g->W1.heap[x]? =w.heap[x]?):=by
  subst hI;refine⟨KS ?_ _ _ (by omega),by rw[hW1,setCells_size];rfl,fun x hx=>by rw[hW1,lF g _ _ _ x hx];rfl⟩;have h1:=a1d Aa (m:=l.length-1) (by omega);rw[hnews,TN l i hi] at h1;exact h1
 have hwo:Hid (W1.os=w.os/\W1.tape=w.tape/\W1.output=w.output):=by
  have h1:=fF (B:=0) (b:=g) (a:=w) (Nat.zero_le _) news (0+i*2) w.drew ((Below.refl 0 w).drew);rw[hW1];exact⟨h1.os,h1.tape,h1.output⟩
 have hic:(i:Int)<=(I1:Int):=by omega
 have hjl:(I1:Int)<=(l.length:Int):=by omega
 have hlc:(l.length:Int)<=(cap:Int):=by omega
 have hne:((i:Int)==(I1:Int))=false:=beq_eq_false_iff_ne.2 (by omega);have hjc:I1<=cap:=by omega
 have ah3:(i:Int)<=(cap:Int):=by omega
 have hne2:¬cap=i+(l.length-I1):=by omega
 have HL1:Hid (i+(l.length-I1)=l.length-1):=(by omega:i+(l.length-I1)=l.length-1);clear hW1 Aa hd GH hnews hlen h hl1 hfz hI;go_enter func112,ntmps112;go_wp2_with fail
 go_region_law (refine step_append_room rfl (.tmp 22) (.tmp 25) 22 rfl 65 i0 2 underlying22 hi0 hz1 g 0 i cap (by simp[Act.eval,Act.put]) A (l.length-I1) (cap-I1) news (by simp[Act.eval,Act.put]) s1.out hsrc.out s2.out (by omega) s3.out ?_;rw[<- hW.out])
 go_wp2_with fail;go_ret;obtain⟨k1,k2,k3⟩:=FIN.out;obtain⟨k4,k5,k6⟩:=hwo.out;have b1:=fF (B:=0) (b:=g) (a:=W1) (Nat.zero_le _) [.string ⟨#[]⟩,.string ⟨#[]⟩] ((i+(l.length-I1))*2) W1 (Below.refl 0 W1);exact⟨by have h1:=HL1.out;simp only[h1];rfl,k1,b1.os.trans k4,b1.tape.trans k5,b1.output.trans k6,by rw[setCells_size];exact k2,fun x hx=>(lF g _ _ _ x hx).trans (k3 x hx)⟩
def mH (M:Dm)(n:Int)(nm:Bs):Except Nat Dm:=match M n with
 |none=>.error 5
 |some e=>if(jk e.ats nm).isSome=false then .error 5 else .ok (lK M n e (Cg e.ats nm))
theorem TP {E:Nat->Addr}{B:Nat}{tg:bf}{W:ag}{DB MB:Nat}{p:Int->Option Nat}{M:Dm}{nx c:Nat}(hE:DE E W)(h:aO B tg W DB MB p M nx c)(n:Int)(hn:bA n)(nm:Bs):
  ax 61 #[ay DB,aa n,.string ⟨nm.toArray⟩] W fun e w'=>xL E B tg W DB MB p nx c (mH M n nm) e w':=by
 have d0:=h.d0;have k5:=hE.c5;unfold mH;cases hm:M n with
 |none=>
  have hp:=h.non n hm;simp only;go_enter func61,ntmps61;go_wp2_with(at_lookup;refine iB _ rfl _ _ 83 rfl underlying3 underlying83 (aW _) rfl h.map n rfl hn hp ?_);go_ret;exact⟨rfl,Below.refl _ _⟩
 |some e=>
  obtain⟨EB,va,vk,hp,he⟩:=h.els n e hm;have PO:=qC he nm;simp only;have hlen:e.ats.length<=maxLen:=by
   obtain⟨o,cap, -,h2,h3, -⟩:=bS he.ats;omega
  rcases ru e.ats nm 0 with⟨hf,hat⟩|⟨i,x,hf,hix,hat⟩
  ·rw[hf] at PO;rw[hat,if_pos (by decide)];have C1:∀w1,Below W.heap.size W w1->w1.cell? (ak 6 0)=some (.iface 390 (.pointer (some (E 5)))):=fun w1 b1=>(b1.cell (az hE.c5)).trans hE.c5;go_enter func61,ntmps61;go_wp2_with(first|(at_lookup;refine bu _ rfl _ _ 83 rfl underlying3 underlying83 (aW _) rfl h.map n rfl hn EB hp ?_)|(go_at_call 35;refine PO.mono ?_;rintro e1 w1 ⟨rfl,b1⟩;have q7:=C1 w1 b1));go_ret;exact⟨rfl,b1⟩
  ·rw[Nat.zero_add] at hf;rw[hf] at PO;rw[hat,if_neg (fun hh=>by simp at hh)];obtain⟨-,hoff, -⟩:=GG e.ats nm [] 0 i (by rw[hf,Nat.zero_add]);obtain⟨hil, -⟩:=List.getElem?_eq_some_iff.1 hix;obtain⟨g,hg, -⟩:=bO he.ats _ _ (j5 hix).2;obtain⟨ov,kv,JE,hkv,hkm, -,h5⟩:=bS he.ats;have hov:=h5 g hg;subst JE hov;have neG:g≠EB:=fun e1=>by have h1:=he.jH g hg;rw[e1,he.tag] at h1;cases h1
   obtain⟨I1,hI1⟩:∃I1,i+1=I1:=⟨_,rfl⟩;have al8:(i:Int)+1=(I1:Int):=by omega
   have al9:(I1:Int)<=9223372036854775807:=by rw[bq] at hlen;omega
   have C1:∀w1,Below W.heap.size W w1->w1.cell? (ak EB 1)=some (.slice (some ⟨g,0,none⟩) e.ats.length kv):=fun w1 b1=>(b1.cell (az he.c1)).trans he.c1;have DL:∀w1,Below W.heap.size W w1->ax 112 #[.slice (some ⟨g,0,none⟩) e.ats.length kv,aa i,aa I1] w1 fun e2 w2=>e2=.returned (.slice (some ⟨g,0,none⟩) (e.ats.length-1) kv)/\w2.cell? (ak EB 1)=some (.slice (some ⟨g,0,none⟩) e.ats.length kv)/\w2.frozen? ⟨EB,1,none⟩=false/\Hid (xL E B tg W DB MB p nx c (.ok (lK M n e (Cg e.ats nm))) (.returned .nilIface) (w2.setCell ⟨EB,1,none⟩ (.slice (some ⟨g,0,none⟩) (e.ats.length-1) kv))):=fun w1 b1=>(a1e w1 g kv i I1 e.ats (aP he.ats b1) hil hI1).mono fun e2 w2 ⟨r1,r2,r3,r4,r5,r6,r7⟩=>by
    have hE1:=(b1.block EB (aM he.cells)).trans he.cells;have hE2:=(r7 EB (fun e1=>neG e1.symm)).trans hE1;refine⟨r1,aF hE2 1 _ rfl,aR hE2 1,?_⟩;have hl8:e.ats.length-1=(Cg e.ats nm).length:=by rw[hoff,List.length_append,List.length_take,List.length_drop];omega
    rw[<- hoff] at r2;have hsz:=World.size_setCell w2 ⟨EB,1,none⟩ (.slice (some ⟨g,0,none⟩) (e.ats.length-1) kv);have hst:=(Below.refl EB w2).setCell (p:=⟨EB,1,none⟩) ai (.slice (some ⟨g,0,none⟩) (e.ats.length-1) kv);have r:=h.a4E hm hp he (w8:=w2.setCell ⟨EB,1,none⟩ (.slice (some ⟨g,0,none⟩) (e.ats.length-1) kv)) (v7:=.slice (some ⟨g,0,none⟩) (e.ats.length-1) kv) (L:=Cg e.ats nm) (by rw[heap_setCell_same w2 EB 1 _ _ _ hE2];rfl) (by rw[<- hl8];exact bT r2 fun j hj=>Below.heap_setCell _ _ _ j (fun e1=>neG (by cases hj;exact e1))) (.inl rfl) (hst.os.trans (r3.trans b1.os)) (hst.tape.trans (r4.trans b1.tape)) (hst.output.trans (r5.trans b1.output)) (by rw[hsz,r6];exact b1.size) (fun y hy h1 h2=>by rw[Below.heap_setCell _ _ _ y h1,r7 y (fun e1=>h2 (by rw[e1];rfl)),b1.block y hy]);exact⟨rfl,r.2.2,_,r.2.1,r.1⟩
   have HII:=aj hI1;clear hI1 hoff hix hat hf;go_enter func61,ntmps61;go_upto_region 7 with(first|(at_lookup;refine bu _ rfl _ _ 83 rfl underlying3 underlying83 (aW _) rfl h.map n rfl hn EB hp ?_)|(go_at_call 35;refine PO.mono ?_;rintro e1 w1 ⟨rfl,b1⟩));have q1:=C1 w1 b1;have D1:=DL w1 b1;clear PO DL C1;go_wp2_with(go_at_call 112;refine D1.mono ?_;rintro e2 w2 ⟨rfl,q2,q3,H2⟩);go_ret;exact H2.out
section
variable {E:Nat->Addr}{W:ag}{LB B:Nat}{tg:bf}{DB MB:Nat}{p:Int->Option Nat}{M:Dm}{nx c:Nat}{r:Int->Nat}{rl:List Rl}{rv:ah}{qs:List dm}{pv:ah}{w h:Nat}{cv:ah}
abbrev a1f (qs:List dm)(w h:Nat):List aD:=jD aI ((qs.map dm.pc).map fK) w h
theorem KZ (hl:LvS W LB B tg DB MB p M nx c r rl rv qs pv w h cv)(hw1:1<=w)(hw:w<=40)(Ac:1<=h)(hh:h<=40):
  ax 10 #[ay LB] W fun e w'=>∃g cp,e=.returned (.agg #[aa w,aa h,.slice (some ⟨g,0,none⟩) (w*h) cp])/\w'.ownsRow W.heap.size 9 1 (.slice (some ⟨g,0,none⟩) (w*h) cp) (w*h) ((a1f qs w h).map .string)/\Below W.heap.size W w':=by
 obtain⟨ocv,ccv,hcv⟩:=aH hl.Uo;subst hcv;have l3:=aF hl.lb 3 _ rfl;have l4:=aF hl.lb 4 _ rfl;have l5:=aF hl.lb 5 _ rfl;have b0:=di W (.cells #[aa 0,aa 0,.slice none 0 0] 40);have k0:=cZ W #[aa 0,aa 0,.slice none 0 0] 40;have b1:=di (W.alloc (.cells #[aa 0,aa 0,.slice none 0 0] 40)) (.cells #[aa w,aa h,.slice ocv (w*h) ccv] 40);have k1:=cZ (W.alloc (.cells #[aa 0,aa 0,.slice none 0 0] 40)) #[aa w,aa h,.slice ocv (w*h) ccv] 40;rw[World.size_alloc] at k1;have l3':=(b0.cell (az l3)).trans l3;have l4':=(b0.cell (az l4)).trans l4;have l5':=(b0.cell (az l5)).trans l5;have hpl:(a1f qs w h).length=w*h:=iJ _ _ _ _;have hwh:w*h<=1600:=Nat.mul_le_mul hw hh;go_enter func10,ntmps10;go_upto_region 2 with fail;have k0':=(b1.block _ (aM k0)).trans k0;have bU:=aG b0 b1;obtain⟨U,hU⟩:∃U,(W.alloc (.cells #[aa 0,aa 0,.slice none 0 0] 40)).alloc (.cells #[aa w,aa h,.slice ocv (w*h) ccv] 40)=U:=⟨_,rfl⟩;rw[hU] at k1 k0' bU⊢;clear hU;have CT:=XC U _ (a1f qs w h) (by rw[hpl];exact aP hl.Uo bU) (by rw[hpl];omega);rw[hpl] at CT;have CT:=CT.mono (R':=fun e w2=>∃g cp,e=.returned (.slice (some ⟨g,0,none⟩) (w*h) cp)/\lY w2 (W.heap.size+1) (aa w) (aa h) (.slice ocv (w*h) ccv)/\lY w2 W.heap.size (aa 0) (aa 0) (.slice none 0 0)/\Hid (w2.ownsRow U.heap.size 9 1 (.slice (some ⟨g,0,none⟩) (w*h) cp) (w*h) ((a1f qs w h).map .string)/\Below U.heap.size U w2/\w2.heap[W.heap.size]? =some (.cells #[aa 0,aa 0,.slice none 0 0] 40))) fun e w2 ⟨o,k,h1,h2,h3⟩=>by
   obtain⟨g,cp,hg, -, -⟩:=h2.form (Nat.mul_pos hw1 Ac);rw[hg] at h1 h2;have p1:=(h3.block _ (aM k1)).trans k1;have p0:=(h3.block _ (aM k0')).trans k0';exact⟨g,cp,h1,lY.of p1,lY.of p0,h2,h3,p0⟩
 obtain⟨c0,c1,c2,f0,f1,f2⟩:=lY.of k1;have hsU:W.heap.size+1<U.heap.size:=aM k1;clear l3 l4 l5 l3' l4' l5' k1 k0' k0 b0 b1;go_wp2_with(go_at_call 27;refine CT.mono ?_;rintro e w2 ⟨g,cp,rfl,⟨c0',c1',c2',f0',f1',f2'⟩,⟨z0,z1,z2,y0,y1,y2⟩,H2⟩);obtain⟨ow,b2,p0⟩:=H2.out;have r4:=UN (w:=w2.setCell ⟨W.heap.size+1,2,none⟩ (.slice (some ⟨g,0,none⟩) (w*h) cp)) ((Below.heap_setCell _ _ _ W.heap.size (by simp)).trans p0) (aa w) (aa h) (.slice (some ⟨g,0,none⟩) (w*h) cp);obtain⟨e0,e1,e2, -, -, -⟩:=lY.of r4;refine bodyPost_ret (v:=.agg #[aa w,aa h,.slice (some ⟨g,0,none⟩) (w*h) cp]) (by simp[results,results10,go_sem,e0,e1,e2]) rfl ?_;refine⟨g,cp,rfl,?_,((((aG bU b2).setCell (by simp) _).setCell (by simp) _).setCell (by simp) _).setCell (by simp) _⟩;exact fH (iR (iR (iR (iR ow (by simp;omega) _) (by simp;omega) _) (by simp;omega) _) (by simp;omega) _) bU.size
end
def mJ:Bs:=[115,101,116]
def oF:Bs:=[117,110,115,101,116]
section
variable {E:Nat->Addr}{N:Nat}{tg:bf}{V:ag}{DB MB:Nat}{p:Int->Option Nat}{M:Dm}{nx c:Nat}{r:Int->Nat}
theorem xL.act {x:Except Nat Dm}{e:Ending}{w':ag}(h:dN N tg V DB MB p M nx c r)(hr:xL E N tg V DB MB p nx c x e w')(hM:∀M2,x=.ok M2->bY M2/\∃i y l,M i=some y/\M2=lK M i y l):
  Below N V w'/\(((∃k,x=.error k)/\∃t u,e=.returned (.iface t u))\/(e=.returned .nilIface/\∃jM p2 M2 gQ c2 r2,(x=.ok M2/\gQ=nx/\c2=c/\r2=r)/\bY M2/\dN N jM w' DB MB p2 M2 gQ c2 r2)):=by
 cases x with
 |error k=>exact⟨hr.2.mono h.low,.inl ⟨⟨k,rfl⟩,_,_,hr.1⟩⟩
 |ok M2=>
  obtain⟨h1,h2,gF,h3,h4⟩:=hr;obtain⟨h5,i,y,l,h6,h7⟩:=hM M2 rfl;refine⟨h2.below (fun b t ht=>(h.w.low b t ht).1) h.low,.inr ⟨h1,gF,p,M2,nx,c,r,⟨rfl,rfl,rfl,rfl⟩,h5,h4,?_,?_,h.le,Nat.le_trans h.low h2.size⟩⟩
  ·rw[h7];exact h.d.ats h6 l
  ·rw[h7];exact h.n.ats h6 l
theorem a4F {n:Int}{nm v:Bs}(hM:bY M):∀M2,qN M n nm v=.ok M2->bY M2/\∃i y l,M i=some y/\M2=lK M i y l:=fun M2 h=>by
 unfold qN at h;cases hm:M n with
 |none=>rw[hm] at h;cases h
 |some e=>
  rw[hm] at h;simp only at h;split at h
  ·cases h
  ·next h1=>
   split at h
   ·cases h
   ·next h2=>
    split at h
    ·cases h
    ·next h3=>
     cases h;refine⟨hM.set hm (by simpa using h1) (by simpa using h2) ?_,n,e,_,hm,rfl⟩;by_cases h4:(jk e.ats nm).isSome=true
     ·exact .inl h4
     ·exact .inr (by
       rcases Nat.lt_or_ge e.ats.length 12 with h5|h5
       ·exact h5
       ·exact absurd ⟨by simpa using h4,h5⟩ h3)
theorem Y8 {n:Int}{nm:Bs}(hM:bY M):∀M2,mH M n nm=.ok M2->bY M2/\∃i y l,M i=some y/\M2=lK M i y l:=fun M2 h=>by
 unfold mH at h;cases hm:M n with
 |none=>rw[hm] at h;cases h
 |some e=>
  rw[hm] at h;simp only at h;split at h
  ·cases h
  ·cases h;exact⟨hM.off hm,n,e,_,hm,rfl⟩
theorem rG (hE:LE E V)(h:dN N tg V DB MB p M nx c r)(hM:bY M)(n m ea:Int)(hn:bA n)(nm v:Bs)(hnl:nm.length<=1000000)(hvl:v.length<=1000000):
  ax 29 #[ay DB,.agg (iF ⟨mJ,n,m,ea,nm,v⟩)] V fun e w'=>Below N V w'/\(((∃k,qN M n nm v=.error k)/\∃t u,e=.returned (.iface t u))\/(e=.returned .nilIface/\∃jM p2 M2 gQ c2 r2,(qN M n nm v=.ok M2/\gQ=nx/\c2=c/\r2=r)/\bY M2/\dN N jM w' DB MB p2 M2 gQ c2 r2)):=by
 have b0:=di V (.cells (iF ⟨mJ,n,m,ea,nm,v⟩) 45);obtain⟨c0,c1,c2,c3,c4,c5⟩:=NZ.of (cZ V (iF ⟨mJ,n,m,ea,nm,v⟩) 45);have ST:=(a1b (hE.below b0).de (h.below b0).w (h.below b0).low n hn nm v hnl hvl).mono (R':=fun e w'=>(∃u,e=.returned u)/\Hid (xL E N tg (V.alloc (.cells (iF ⟨mJ,n,m,ea,nm,v⟩) 45)) DB MB p nx c (qN M n nm v) e w')) fun e w' hr=>⟨by
  revert hr;unfold xL;split
  ·exact fun hr=>⟨_,hr.1⟩
  ·exact fun hr=>⟨_,hr.1⟩,hr⟩
 have HA:Hid (∀e w',xL E N tg (V.alloc (.cells (iF ⟨mJ,n,m,ea,nm,v⟩) 45)) DB MB p nx c (qN M n nm v) e w'->Below N V w'/\(((∃k,qN M n nm v=.error k)/\∃t u,e=.returned (.iface t u))\/(e=.returned .nilIface/\∃jM p2 M2 gQ c2 r2,(qN M n nm v=.ok M2/\gQ=nx/\c2=c/\r2=r)/\bY M2/\dN N jM w' DB MB p2 M2 gQ c2 r2))):=fun e w' hr=>by
  obtain⟨h1,h2⟩:=xL.act (h.below b0) hr (a4F hM);exact⟨(b0.mono h.low).trans h1,h2⟩
 clear h hM hE b0;unfold mJ at*;go_enter func29,ntmps29;go_wp2_with(go_at_call 60;refine ST.mono ?_;rintro e w1 ⟨⟨u,rfl⟩,hr⟩);go_ret;exact HA.out _ _ hr.out
theorem L8 (hE:LE E V)(h:dN N tg V DB MB p M nx c r)(hM:bY M)(n m ea:Int)(hn:bA n)(nm v:Bs):
  ax 29 #[ay DB,.agg (iF ⟨oF,n,m,ea,nm,v⟩)] V fun e w'=>Below N V w'/\(((∃k,mH M n nm=.error k)/\∃t u,e=.returned (.iface t u))\/(e=.returned .nilIface/\∃jM p2 M2 gQ c2 r2,(mH M n nm=.ok M2/\gQ=nx/\c2=c/\r2=r)/\bY M2/\dN N jM w' DB MB p2 M2 gQ c2 r2)):=by
 have b0:=di V (.cells (iF ⟨oF,n,m,ea,nm,v⟩) 45);obtain⟨c0,c1,c2,c3,c4,c5⟩:=NZ.of (cZ V (iF ⟨oF,n,m,ea,nm,v⟩) 45);have ST:=(TP (hE.below b0).de (h.below b0).w n hn nm).mono (R':=fun e w'=>(∃u,e=.returned u)/\Hid (xL E N tg (V.alloc (.cells (iF ⟨oF,n,m,ea,nm,v⟩) 45)) DB MB p nx c (mH M n nm) e w')) fun e w' hr=>⟨by
  revert hr;unfold xL;split
  ·exact fun hr=>⟨_,hr.1⟩
  ·exact fun hr=>⟨_,hr.1⟩,hr⟩
 have HA:Hid (∀e w',xL E N tg (V.alloc (.cells (iF ⟨oF,n,m,ea,nm,v⟩) 45)) DB MB p nx c (mH M n nm) e w'->Below N V w'/\(((∃k,mH M n nm=.error k)/\∃t u,e=.returned (.iface t u))\/(e=.returned .nilIface/\∃jM p2 M2 gQ c2 r2,(mH M n nm=.ok M2/\gQ=nx/\c2=c/\r2=r)/\bY M2/\dN N jM w' DB MB p2 M2 gQ c2 r2))):=fun e w' hr=>by
  obtain⟨h1,h2⟩:=xL.act (h.below b0) hr (Y8 hM);exact⟨(b0.mono h.low).trans h1,h2⟩
 clear h hM hE b0;unfold oF at*;go_enter func29,ntmps29;go_wp2_with(go_at_call 61;refine ST.mono ?_;rintro e w1 ⟨⟨u,rfl⟩,hr⟩);go_ret;exact HA.out _ _ hr.out
end
theorem bY.put {M:Dm}(h:bY M){i:Int}{e:dO}(he:a0W e):bY (bJ M i e):=fun j x hx=>by
 unfold bJ at hx;split at hx
 ·cases hx;exact he
 ·exact h j x hx
theorem bY.cut {M:Dm}(h:bY M)(l:List Int):bY (o6 M l):=fun j x hx=>by
 unfold o6 at hx;split at hx
 ·cases hx
 ·exact h j x hx
theorem bY.out {M:Dm}(h:bY M){n:Int}{e o:dO}(ho:M e.parent=some o):bY (gK M n e o):=h.put (h _ o ho)
theorem bY.mov {M:Dm}(h:bY M){n par:Int}{k:Nat}{e o q:dO}(he:M n=some e)(ho:M e.parent=some o)(hq:gK M n e o par=some q):bY (iE M n par k e o q):=((h.out (n:=n) ho).put (i:=n) (e:=⟨e.name,e.ats,par,e.kids⟩) (h n e he)).put (i:=par) (e:=⟨q.name,q.ats,q.parent,dG q.kids k n⟩) (h.out ho par q hq)
def ApR (N DB MB nx:Nat)(u:ah)(w':ag):Prop:=(∃t y,u=.iface t y)\/(u=.nilIface/\∃jM p2 M2 gQ c2 r2,gQ<=nx+1/\bY M2/\dN N jM w' DB MB p2 M2 gQ c2 r2)
section
variable {E:Nat->Addr}{N:Nat}{tg:bf}{W:ag}{DB MB:Nat}{p:Int->Option Nat}{M:Dm}{nx c:Nat}{r:Int->Nat}
theorem Y9 (hE:DE E W)(hd:aO N tg W DB MB p M nx c)(par a:Int)(name:Bs)(hwp:bA par)(q:dO)(hq:M par=some q)(hkl:q.kids.length<=1000000)(ha:¬a<0)(hal:¬(q.kids.length:Int)<a)(hnm:fP name=false)(hnl:name.length<=1000000):
  ax 57 #[ay DB,aa par,aa a,.string ⟨name.toArray⟩] W fun r w'=>r=.returned (.tuple #[aa 0,eV (E 4)])/\Below W.heap.size W w':=by
 have d0:=hd.d0;have ck:=hE.c4;unfold eV;obtain⟨QB,qa,qk,hpq,hq1⟩:=hd.els par q hq;obtain⟨oq,kq,rfl⟩:=aH hq1.kids;have y3:=hq1.c3;have hkl':(q.kids.length:Int)<=1000000:=by omega
 have IN:=fun w=>gm ⟨name.toArray⟩ (by rw[dS];omega) w;have hin:fP (⟨name.toArray⟩:aD).data.toList=false:=by simpa using hnm
 rw[hin] at IN;go_enter func57,ntmps57;go_upto_region 7 with(first|(at_lookup;refine bu _ rfl _ _ 83 rfl underlying3 underlying83 (aW _) rfl hd.map par rfl hwp QB hpq ?_)|(go_at_call 102;refine(IN _).mono ?_;rintro r w0 ⟨rfl,rfl⟩));go_region;go_wp2_with fail
 go_ret2
 exact⟨rfl,rfl,rfl,rfl,Nat.le_refl _,fun _ _=>rfl⟩
theorem a8U (hE:DE E W)(h:dN N tg W DB MB p M nx c r)(hM:bY M)(par a:Int)(name:Bs)(hwp:bA par)(hnl:name.length<=1000000)(hnx:nx<1000000):
  ax 57 #[ay DB,aa par,aa a,.string ⟨name.toArray⟩] W fun e w'=>∃v u,e=.returned (.tuple #[v,u])/\ApR N DB MB nx u w'/\Below N W w':=by
 have er:∀{k:Nat} {e:Ending} {w':ag},e=.returned (.tuple #[aa 0,eV (E k)])/\Below W.heap.size W w'->∃v u,e=.returned (.tuple #[v,u])/\ApR N DB MB nx u w'/\Below N W w':=fun hr=>⟨_,_,hr.1,.inl ⟨_,_,rfl⟩,hr.2.mono h.low⟩;cases hq:M par with
 |none=>exact(a3J hE h.w par a name hwp hq).mono fun e w' hr=>er hr
 |some q=>
  have hkl:=h.few hq;by_cases ha:a<0
  ·exact(a0p hE h.w par a name hwp q hq (by omega) ha).mono fun e w' hr=>er hr
  by_cases hal:(q.kids.length:Int)<a
  ·exact(Su hE h.w par a name hwp q hq (by omega) ha hal).mono fun e w' hr=>er hr
  cases hnm:fP name with
  |false=>exact(Y9 hE h.w par a name hwp q hq (by omega) ha hal hnm hnl).mono fun e w' hr=>er hr
  |true=>
   have hu:=h.d.deep _ par q rfl hq;have hb:=h.d.rb par q hq;by_cases hdl:10<=r par
   ·exact(X5 hE h.w par a name hwp q hq (by omega) ha hal hnm (r par) hu (by omega) hdl).mono fun e w' hr=>er hr
   by_cases hc:100<=c
   ·exact(X6 hE h.w par a name hwp q hq (by omega) ha hal hnm (r par) hu (by omega) (by omega) hc).mono fun e w' hr=>er hr
   obtain⟨k,rfl⟩:∃k:Nat,a=k:=⟨a.toNat,by omega⟩;refine(a0m h.w par k name q hq (by omega) hnm (r par) hu (by omega) (by omega) hnx (by omega) h.low).mono ?_;rintro e w' ⟨rfl,hk,gF,p',ht,hd⟩;have hv:=h.d.abS h.new (by omega) hq name k;have hM2:=(hM.put (i:=(nx:Int)) (e:=⟨name,[],par,[]⟩) ⟨hnm,by simp,by simp,by simp⟩).put (i:=par) (e:=⟨q.name,q.ats,q.parent,dG q.kids k nx⟩) (hM par q hq);exact⟨_,_,rfl,.inr ⟨rfl,gF,p',_,_,_,_,Nat.le_refl _,hM2,⟨hd,h.d.add hv hq (by omega),hv.count h.n,by omega,Nat.le_trans h.low hk.size⟩⟩,hk.below (fun b t hb=>(h.w.low b t hb).1) h.low⟩
theorem Ya (hE:DE E W)(h:dN N tg W DB MB p M nx c r)(hM:bY M)(n:Int)(hwn:bA n):
  ax 58 #[ay DB,aa n] W fun e w'=>∃u,e=.returned u/\ApR N DB MB nx u w'/\Below N W w':=by
 cases hn:M n with
 |none=>exact(Sv hE h.w n hwn hn).mono fun e w' hr=>⟨_,hr.1,.inl ⟨_,_,rfl⟩,by rw[hr.2];exact Below.refl _ _⟩
 |some e=>
  by_cases h0:n=0
  ·subst h0;exact(JQ hE h.w e hn).mono fun e w' hr=>⟨_,hr.1,.inl ⟨_,_,rfl⟩,by rw[hr.2];exact Below.refl _ _⟩
  obtain⟨o,ho,hno,_⟩:=h.d.up n e hn h0;have hdp:=h.d.dp 11 n e hn (by omega);have hpre:=h.d.Xb (o:=o) (d:=1) hn h0 hdp;have hfl:dw (gK M n e o) 11 n=dw M 11 n:=by unfold dw;rw[hpre]
  have hL:∀x,x∈dw M 11 n↔Bl M n x:=fun x=>h.d.mem hdp;have hnd:(dw M 11 n).Nodup:=h.d.qW 11 n 1;have hv:=h.d.cutV hn ho hL;have hct:=hv.count h.n hnd hL;have hle:=h.le;refine(Nf h.w n e o hn h0 ho (List.ne_nil_of_mem hno) 11 (by omega) (dw M 11 n) (h.d.a0s hn ho hdp) hfl (fun k hk=>?_) hnd (by omega)).mono ?_
  ·obtain⟨x,hx⟩:=((hL k).1 hk).in_;obtain⟨x',h1,_⟩:=h.d.vP hn ho hx;have h1:bJ M e.parent ⟨o.name,o.ats,o.parent,um o.kids n⟩ k=some x':=h1;rw[h1];simp
  ·rintro e1 w' ⟨rfl,hk,gF,p',ht,hd⟩;exact⟨_,rfl,.inr ⟨rfl,gF,p',_,_,_,r,Nat.le_succ _,(hM.out ho).cut _,⟨hd,h.d.cut hv (h.d.top h0),hct.1,by omega,Nat.le_trans h.low hk.size⟩⟩,hk.below (fun b t hb=>(h.w.low b t hb).1) h.low⟩
theorem a4G (hE:DE E W)(h:dN N tg W DB MB p M nx c r)(hM:bY M)(n par a:Int)(hwn:bA n)(hwp:bA par):
  ax 59 #[ay DB,aa n,aa par,aa a] W fun e w'=>∃u,e=.returned u/\ApR N DB MB nx u w'/\Below N W w':=(JZ hE h n par a hwn hwp).mono fun e w' hr=>by
 rcases hr with⟨k, -, -,h1,h2⟩|⟨h1,k,x,o,q0,q, -,hm⟩
 ·exact⟨_,h1,.inl ⟨_,_,rfl⟩,h2.mono h.low⟩
 ·obtain⟨gF,r', -,hd⟩:=hm.doc;exact⟨_,h1,.inr ⟨rfl,gF,p,_,nx,c,r',Nat.le_succ _,hM.mov hm.hn hm.ho hm.hq,hd⟩,hm.kt.below (fun b t hb=>(h.w.low b t hb).1) h.low⟩
end
def O4:Bs:=[97,100,100]
def oG:Bs:=[114,101,109,111,118,101]
section
variable {E:Nat->Addr}{N:Nat}{tg:bf}{V:ag}{DB MB:Nat}{p:Int->Option Nat}{M:Dm}{nx c:Nat}{r:Int->Nat}
theorem TQ (hE:LE E V)(h:dN N tg V DB MB p M nx c r)(hM:bY M)(n m ea:Int)(hn:bA n)(nm v:Bs)(hnl:nm.length<=1000000)(hnx:nx<1000000):
  ax 29 #[ay DB,.agg (iF ⟨O4,n,m,ea,nm,v⟩)] V fun e w'=>∃u,e=.returned u/\ApR N DB MB nx u w'/\Below N V w':=by
 have b0:=di V (.cells (iF ⟨O4,n,m,ea,nm,v⟩) 45);obtain⟨c0,c1,c2,c3,c4,c5⟩:=NZ.of (cZ V (iF ⟨O4,n,m,ea,nm,v⟩) 45);have ST:=a8U (hE.below b0).de (h.below b0) hM n ea nm hn hnl hnx;have HB:=b0.mono h.low;clear h hM hE b0;unfold O4 at*;go_enter func29,ntmps29;go_wp2_with(go_at_call 57;refine ST.mono ?_;rintro e w1 ⟨y,u,rfl,hr⟩);go_ret;exact⟨u,rfl,hr.1,HB.trans hr.2⟩
theorem GI (hE:LE E V)(h:dN N tg V DB MB p M nx c r)(hM:bY M)(n m ea:Int)(hn:bA n)(nm v:Bs):
  ax 29 #[ay DB,.agg (iF ⟨oG,n,m,ea,nm,v⟩)] V fun e w'=>∃u,e=.returned u/\ApR N DB MB nx u w'/\Below N V w':=by
 have b0:=di V (.cells (iF ⟨oG,n,m,ea,nm,v⟩) 45);obtain⟨c0,c1,c2,c3,c4,c5⟩:=NZ.of (cZ V (iF ⟨oG,n,m,ea,nm,v⟩) 45);have ST:=Ya (hE.below b0).de (h.below b0) hM n hn;have HB:=b0.mono h.low;clear h hM hE b0;unfold oG at*;go_enter func29,ntmps29;go_wp2_with(go_at_call 58;refine ST.mono ?_;rintro e w1 ⟨u,rfl,hr⟩);go_ret;exact⟨u,rfl,hr.1,HB.trans hr.2⟩
theorem O5 (hE:LE E V)(h:dN N tg V DB MB p M nx c r)(hM:bY M)(n m ea:Int)(hn:bA n)(hm:bA m)(nm v:Bs):
  ax 29 #[ay DB,.agg (iF ⟨dY,n,m,ea,nm,v⟩)] V fun e w'=>∃u,e=.returned u/\ApR N DB MB nx u w'/\Below N V w':=by
 have b0:=di V (.cells (iF ⟨dY,n,m,ea,nm,v⟩) 45);obtain⟨c0,c1,c2,c3,c4,c5⟩:=NZ.of (cZ V (iF ⟨dY,n,m,ea,nm,v⟩) 45);have ST:=a4G (hE.below b0).de (h.below b0) hM n m ea hn hm;have HB:=b0.mono h.low;clear h hM hE b0;unfold dY at*;go_enter func29,ntmps29;go_wp2_with(go_at_call 59;refine ST.mono ?_;rintro e w1 ⟨u,rfl,hr⟩);go_ret;exact⟨u,rfl,hr.1,HB.trans hr.2⟩
theorem O6 (hE:LE E V)(h:dN N tg V DB MB p M nx c r)(x:Ed)(h1:x.kd≠O4)(h2:x.kd≠oG)(h3:x.kd≠dY)(h4:x.kd≠mJ)(h5:x.kd≠oF)(h6:x.kd≠dM):
  ax 29 #[ay DB,.agg (iF x)] V fun e w'=>∃u,e=.returned u/\ApR N DB MB nx u w'/\Below N V w':=by
 have b0:=di V (.cells (iF x) 45);have x0:=(NZ.of (cZ V (iF x) 45)).c0;have ck:=(hE.below b0).de.c4;have n1:=mG h1;have n2:=mG h2;have n3:=mG h3;have n4:=mG h4;have n5:=mG h5;have n6:=mG h6;have HB:=b0.mono h.low;unfold O4 at n1;unfold oG at n2;unfold dY at n3;unfold mJ at n4;unfold oF at n5;unfold dM at n6;clear h hE h1 h2 h3 h4 h5 h6 b0;go_enter func29,ntmps29;go_wp2_with fail;go_ret;exact⟨_,rfl,.inl ⟨_,_,rfl⟩,HB⟩
theorem TS (hE:LE E V)(h:dN N tg V DB MB p M nx c r)(hM:bY M)(x:Ed)(hx:x.kd≠dM)(hn:bA x.n)(hm:bA x.m)(hnl:x.nm.length<=1000000)(hvl:x.vl.length<=1000000)(hnx:nx<1000000):
  ax 29 #[ay DB,.agg (iF x)] V fun e w'=>∃u,e=.returned u/\ApR N DB MB nx u w'/\Below N V w':=by
 obtain⟨kd,n,m,ea,nm,v⟩:=x;by_cases h1:kd=O4
 ·subst h1;exact TQ hE h hM n m ea hn nm v hnl hnx
 by_cases h2:kd=oG
 ·subst h2;exact GI hE h hM n m ea hn nm v
 by_cases h3:kd=dY
 ·subst h3;exact O5 hE h hM n m ea hn hm nm v
 by_cases h4:kd=mJ
 ·subst h4;exact(rG hE h hM n m ea hn nm v hnl hvl).mono fun e w' ⟨k1,k2⟩=>by
   rcases k2 with⟨-,t,u,k2⟩|⟨k2,jM,p2,M2,gQ,c2,r2,⟨-,k3, -⟩,k4,k5⟩
   ·exact⟨_,k2,.inl ⟨_,_,rfl⟩,k1⟩
   ·exact⟨_,k2,.inr ⟨rfl,jM,p2,M2,gQ,c2,r2,by omega,k4,k5⟩,k1⟩
 by_cases h5:kd=oF
 ·subst h5;exact(L8 hE h hM n m ea hn nm v).mono fun e w' ⟨k1,k2⟩=>by
   rcases k2 with⟨-,t,u,k2⟩|⟨k2,jM,p2,M2,gQ,c2,r2,⟨-,k3, -⟩,k4,k5⟩
   ·exact⟨_,k2,.inl ⟨_,_,rfl⟩,k1⟩
   ·exact⟨_,k2,.inr ⟨rfl,jM,p2,M2,gQ,c2,r2,by omega,k4,k5⟩,k1⟩
 exact O6 hE h ⟨kd,n,m,ea,nm,v⟩ h1 h2 h3 h4 h5 hx
end
end
section
theorem TT {M:Dm}{n par:Int}{e o q:dO}(hpn:par≠n)(hqk:n ∉ q.kids)(a:Nat):
  iE M n par a e o q n=some ⟨e.name,e.ats,par,e.kids⟩/\iE M n par a e o q par=some ⟨q.name,q.ats,q.parent,dG q.kids a n⟩/\
  gK (iE M n par a e o q) n ⟨e.name,e.ats,par,e.kids⟩ ⟨q.name,q.ats,q.parent,dG q.kids a n⟩ par=some q/\
  iE (iE M n par a e o q) n par a ⟨e.name,e.ats,par,e.kids⟩ ⟨q.name,q.ats,q.parent,dG q.kids a n⟩ q=iE M n par a e o q:=by
 have h1:iE M n par a e o q n=some ⟨e.name,e.ats,par,e.kids⟩:=by
  unfold iE bJ;rw[if_neg (Ne.symm hpn),if_pos rfl]
 have h2:iE M n par a e o q par=some ⟨q.name,q.ats,q.parent,dG q.kids a n⟩:=by
  unfold iE bJ;rw[if_pos rfl]
 have h3:um (dG q.kids a n) n=q.kids:=by
  unfold um dG;exact Xa q.kids a n hqk
 refine⟨h1,h2,?_,?_⟩
 ·unfold gK bJ;rw[if_pos rfl];show some (⟨q.name,q.ats,q.parent,um (dG q.kids a n) n⟩:dO)=some q;rw[h3]
 ·generalize iE M n par a e o q=M' at h1 h2;funext i;unfold iE gK bJ;by_cases hi:i=par
  ·subst hi;rw[if_pos rfl,h2]
  ·rw[if_neg hi];by_cases hj:i=n
   ·subst hj;rw[if_pos rfl,h1]
   ·rw[if_neg hj,if_neg hi]
end
section
open Go.RowKit
set_option maxRecDepth 20000
theorem TV {M M2:Dm}{n:Int}{nm v:Bs}(h:qN M n nm v=.ok M2):qN M2 n nm v=.ok M2:=by
 unfold qN at h;cases hm:M n with
 |none=>rw[hm] at h;cases h
 |some e=>
  rw[hm] at h;simp only at h;split at h
  ·cases h
  ·next h1=>
   split at h
   ·cases h
   ·next h2=>
    split at h
    ·cases h
    ·cases h;have hm2:lK M n e (iQ e.ats nm v) n=some ⟨e.name,iQ e.ats nm v,e.parent,e.kids⟩:=by unfold lK bJ;rw[if_pos rfl]
     unfold qN;rw[hm2];simp only;rw[if_neg h1,if_neg h2,if_neg (by rw[Qj];simp),Tz];refine congrArg _ ?_;funext i;unfold lK bJ;by_cases hi:i=n
     ·rw[if_pos hi,if_pos hi]
     ·rw[if_neg hi,if_neg hi]
def Ag (E:Nat->Addr)(x:Ed)(M:Dm)(nx c:Nat)(r:Int->Nat):Prop:=∀N tg V DB MB p,LE E V->bY M->dN N tg V DB MB p M nx c r->ax 29 #[ay DB,.agg (iF x)] V fun e w'=>Below N V w'/\e=.returned .nilIface/\∃jM p2,dN N jM w' DB MB p2 M nx c r
section
variable {E:Nat->Addr}{N:Nat}{tg:bf}{V:ag}{DB MB:Nat}{p:Int->Option Nat}{M:Dm}{nx c:Nat}{r:Int->Nat}
theorem a4H {M2:Dm}{n m ea:Int}{nm v:Bs}(hn:bA n)(hnl:nm.length<=1000000)(hvl:v.length<=1000000)(h:qN M n nm v=.ok M2):Ag E ⟨mJ,n,m,ea,nm,v⟩ M2 nx c r:=fun N tg V DB MB p hE hM hd=>(rG hE hd hM n m ea hn nm v hnl hvl).mono fun e w' ⟨k1,k2⟩=>by
 rw[TV h] at k2;rcases k2 with⟨⟨k,k2⟩, -⟩|⟨k2,jM,p2,M3,gQ,c2,r2,⟨k3,rfl,rfl,rfl⟩, -,k5⟩
 ·cases k2
 ·cases k3;exact⟨k1,k2,jM,p2,k5⟩
theorem L9 (n m ea:Int)(nm v:Bs)(Q:ah->ag->Prop)(h:ax 59 #[ay DB,aa n,aa m,aa ea] (V.alloc (.cells (iF ⟨dY,n,m,ea,nm,v⟩) 45)) fun e w'=>∃u,e=.returned u/\Q u w'):
  ax 29 #[ay DB,.agg (iF ⟨dY,n,m,ea,nm,v⟩)] V fun e w'=>∃u,e=.returned u/\Q u w':=by
 obtain⟨c0,c1,c2,c3,c4,c5⟩:=NZ.of (cZ V (iF ⟨dY,n,m,ea,nm,v⟩) 45);unfold dY at*;go_enter func29,ntmps29;go_wp2_with(go_at_call 59;refine h.mono ?_;rintro e w1 ⟨u,rfl,hr⟩);go_ret;exact⟨u,rfl,hr⟩
theorem a4I {l:List Int}{k:Nat}(n:Int)(hk:k<=l.length):(dG l k n)[k]? =some n:=by
 unfold dG;rw[List.getElem?_append_right (by rw[List.length_take];omega),List.length_take,Nat.min_eq_left hk,Nat.sub_self];rfl
theorem a4J {w1:ag}{n par:Int}{k:Nat}{x o q0 q:dO}{nm v:Bs}(hm:a7S N tg V DB MB p M nx c n par k x o q0 q w1)(hd0:dN N tg V DB MB p M nx c r){r':Int->Nat}(hr:Wd (iE M n par k x o q) r'):Ag E ⟨dY,n,par,k,nm,v⟩ (iE M n par k x o q) nx c r':=fun N' gF V' DB' MB' p' hE hM hd=>by
 have hqk:n ∉ q.kids:=by
  have h1:=hm.hq;unfold gK bJ at h1;by_cases he:par=x.parent
  ·rw[if_pos he] at h1;cases h1;show n ∉ um o.kids n;unfold um;simp
  ·rw[if_neg he] at h1;intro hin;obtain⟨x',hx',hp', -⟩:=hd0.d.down par q n h1 hin;rw[hm.hn] at hx';cases hx';exact he hp'.symm
 obtain⟨h1,h2,h3,h4⟩:=TT (M:=M) (e:=x) (o:=o) (q:=q) hm.hpn hqk k;have b0:=di V' (.cells (iF ⟨dY,n,par,k,nm,v⟩) 45);have hd1:=hd.below b0;have MB:=Sy (k:=k) (gF:=gF) (r':=r') hd1 h1 hm.h0 h2 h2 h3 hm.hpn (by rw[h4];exact hd1) k (a4I n hm.hk);refine(L9 n par k nm v (fun u w'=>u=.nilIface/\KT gF (V'.alloc (.cells (iF ⟨dY,n,par,k,nm,v⟩) 45)) w'/\∃Np,(∀y,y<(V'.alloc (.cells (iF ⟨dY,n,par,k,nm,v⟩) 45)).heap.size->Np y=gF y)/\dN N' Np w' DB' MB' p' (iE M n par k x o q) nx c r') (MB.mono fun e w' hr=>⟨_,hr.1,rfl,hr.2⟩)).mono fun e w' ⟨u,k1,k2,k3,jM,_,k4⟩=>?_;exact⟨(b0.mono hd.low).trans (k3.below (fun b t hb=>(hd1.w.low b t hb).1) hd1.low),by rw[k1,k2],jM,p',k4⟩
theorem La (n m ea:Int)(nm v:Bs):Ag E ⟨dM,n,m,ea,nm,v⟩ M nx c r:=fun N tg V DB MB p hE hM hd=>by
 have b0:=di V (.cells (iF ⟨dM,n,m,ea,nm,v⟩) 45);obtain⟨c0,c1,c2,c3,c4,c5⟩:=NZ.of (cZ V (iF ⟨dM,n,m,ea,nm,v⟩) 45);have HB:Hid (Below N V (V.alloc (.cells (iF ⟨dM,n,m,ea,nm,v⟩) 45))/\dN N tg (V.alloc (.cells (iF ⟨dM,n,m,ea,nm,v⟩) 45)) DB MB p M nx c r):=⟨b0.mono hd.low,hd.below b0⟩;clear hd hM hE b0;unfold dM at*;go_enter func29,ntmps29;go_wp2_with fail;go_ret;exact⟨HB.out.1,rfl,tg,p,HB.out.2⟩
end
end
end Go.Proofs.YtjfiehbcamfdfaaGreatDoor
