/- Parts of the proof. -/
import Derived.Test.YtecneflbncjhpaaGreatDoorQp26
namespace Go.Proofs.YtecneflbncjhpaaGreatDoor
open Go.Proofs.Tryz
set_option maxHeartbeats 4000000
section
open Go.RowKit
theorem aK {w:ag}{b:Nat}{cs:Array ah}{t:TypeId}{f:Nat×Nat}(h:w.heap[b]? =some (.cells cs t f))(k:Nat)(v:ah)(hv:cs[k]? =some v):w.cell? (ak b k)=some v:=by
 simp only[World.cell?,h];exact hv
theorem dz {w:ag}{b:Nat}{cs:Array ah}{t:TypeId}(h:w.heap[b]? =some (.cells cs t (0,0)))(k:Nat):w.frozen? ⟨b,k,none⟩=false:=by
 simp[World.frozen?,h]
theorem iG {X:ag}{k:Nat}{v:Obj}(o:Obj)(h:X.heap[k]? =some v):(X.alloc o).heap[k]? =some v:=((bg X o).block k (cZ.1 h).1).trans h
theorem qd {X:ag}{k:Nat}(o:Obj)(h:X.heap.size=k):(X.alloc o).heap[k]? =some o:=by rw[<- h];exact dW X o
theorem aa8 (w:ag)(o0 o1 o2 o3 o4 o5:Obj):∀U,(((((w.alloc o0).alloc o1).alloc o2).alloc o3).alloc o4).alloc o5=U->
  U.heap[w.heap.size]? =some o0/\U.heap[w.heap.size+1]? =some o1/\U.heap[w.heap.size+1+1]? =some o2/\U.heap[w.heap.size+1+1+1]? =some o3/\U.heap[w.heap.size+1+1+1+1]? =some o4/\U.heap[w.heap.size+1+1+1+1+1]? =some o5/\Below w.heap.size w U:=by
 rintro U rfl;refine⟨?_,?_,?_,?_,?_,?_,?_⟩
 ·exact iG _ (iG _ (iG _ (iG _ (iG _ (qd _ rfl)))))
 ·exact iG _ (iG _ (iG _ (iG _ (qd _ (by simp)))))
 ·exact iG _ (iG _ (iG _ (qd _ (by simp))))
 ·exact iG _ (iG _ (qd _ (by simp)))
 ·exact iG _ (qd _ (by simp))
 ·exact qd _ (by simp)
 ·exact((((((aG _ _).alloc ai _).alloc (by simp) _).alloc (by simp;omega) _).alloc (by simp;omega) _).alloc (by simp;omega) _).alloc (by simp;omega) _
theorem a4h {an ad bn bd:Int}(ha:dH an ad=0)(hb:dH bn bd=0):(add an ad bn bd).c=0\/(add an ad bn bd).c=2:=by
 have e:add an ad bn bd=low (an*bd+bn*ad) (ad*bd):=by unfold add;rw[if_neg (by simp[ha]),if_neg (by simp[hb])]
 rw[e];rcases xx (n:=an*bd+bn*ad) (d:=ad*bd) with h|h
 ·rw[h];exact .inr rfl
 ·exact .inl h
end
section
open Go.RowKit Go.Shelf
set_option maxRecDepth 20000
theorem P9 (s:aC)(w:ag)(h:behind 44 s.data.toList=none):
  au 71 #[.string s,.string ⟨#[44]⟩] w fun e w'=>e=.returned (.tuple #[.string s,.string ⟨#[]⟩,.bool false])/\∃k,w'=w.drewN k:=by
 obtain⟨hi,_⟩:=index_none 44 _ h;have HI:=Tryz.stringslite_Index_one s 44;rw[hi] at HI;have HH:=aj HI;clear HI hi h;go_enter func71,ntmps71;go_wp2_with(go_at_call 124;refine(HH.out _).mono ?_;rintro e w' ⟨rfl,rfl⟩);go_ret3;exact⟨rfl,0,rfl⟩
theorem Pb (s a b:aC)(w:ag)(hb:behind 44 s.data.toList=some b.data.toList)(ha:ahead 44 s.data.toList=a.data.toList)(hm:s.size<=9223372036854475807):
  au 71 #[.string s,.string ⟨#[44]⟩] w fun e w'=>e=.returned (.tuple #[.string a,.string b,.bool true])/\∃k,w'=w.drewN k:=by
 obtain⟨i,hi,hl,h3,h4⟩:=pI 44 _ _ hb;rw[kg] at hl;have HI:=Tryz.stringslite_Index_one s 44;rw[hi] at HI;have HH:=aj HI;have e1:s.extract 0 i=a:=ext_list (by rw[Lib.extract_data];simpa[ha] using h3);have e2:s.extract (i+1) s.size=b:=ext_list (by rw[Lib.extract_to_end];exact h4);clear HI hi h3 h4 ha hb;have hl1:(i:Int)<(s.size:Int):=by omega
 have hl2:(i:Int)+1<=(s.size:Int):=by omega
 have h0:(0:Int)<=(i:Int):=by omega
 go_enter func71,ntmps71;go_wp2_with(go_at_call 124;refine(HH.out _).mono ?_;rintro e w' ⟨rfl,rfl⟩)
 go_quiet (fail)
 go_wp2;go_ret3;exact⟨rfl,_,rfl⟩
theorem Ux (s:aC)(w:ag)(h:behind 44 s.data.toList=none):
  au 43 #[.string s,.string ⟨#[44]⟩] w fun e w'=>e=.returned (.tuple #[.string s,.string ⟨#[]⟩,.bool false])/\∃k,w'=w.drewN k:=by
 have HB:=aj h;clear h;go_enter func43,ntmps43;go_wp2_with(go_at_call 71;refine(P9 s _ HB.out).mono ?_;rintro e w' ⟨rfl,k,rfl⟩);go_ret3;exact⟨rfl,_,rfl⟩
theorem Uy (s a b:aC)(w:ag)(hb:behind 44 s.data.toList=some b.data.toList)(ha:ahead 44 s.data.toList=a.data.toList)(hm:s.size<=9223372036854475807):
  au 43 #[.string s,.string ⟨#[44]⟩] w fun e w'=>e=.returned (.tuple #[.string a,.string b,.bool true])/\∃k,w'=w.drewN k:=by
 have HB:=aj hb;have HA:=aj ha;clear ha hb;go_enter func43,ntmps43;go_wp2_with(go_at_call 71;refine(Pb s a b _ HB.out HA.out hm).mono ?_;rintro e w' ⟨rfl,k,rfl⟩);go_ret3;exact⟨rfl,_,rfl⟩
theorem ym {E:Nat->Addr}{c:Nat}(h:c=1\/c=2\/c=3):Nf (E 1) (E 2) (E 3) (E 2) c=eV (E c):=by
 rcases h with rfl|rfl|rfl<;>rfl
theorem qg {E:Nat->Addr}:Nf (E 1) (E 2) (E 3) (E 2) 0=.nilIface:=rfl
abbrev zQt:Qt:=⟨0,0,0,0⟩
def RpR (x:Option Qt)(e:Ending):Prop:=match x with
 |some q=>e=.returned (.tuple #[mW q,.bool true])
 |none=>e=.returned (.tuple #[mW zQt,.bool false])
section
variable {E:Nat->Addr}{W:ag}
theorem Ad (hN:NE E W)(s:aC)(hs:s.size<=1000000):au 236 #[.string s] W fun e w'=>e=.returned (.tuple #[.agg #[aa (rd s.data.toList).n,aa (rd s.data.toList).d],Nf (E 1) (E 2) (E 3) (E 2) (rd s.data.toList).c])/\Below W.heap.size W w':=
 sD (E 1) (E 2) (E 3) (E 2) s W hN.e3 hN.c1 (by omega)
theorem rR (s l r:aC)(bo:Bool)(xn xd yn yd:Int)(e1 e2:ah)(ans:Option Qt)
  (CT:∀V,au 43 #[.string s,.string ⟨#[44]⟩] V fun e w'=>e=.returned (.tuple #[.string l,.string r,.bool bo])/\∃k,w'=V.drewN k)
  (RX:∀V,NE E V->au 236 #[.string l] V fun e w'=>e=.returned (.tuple #[.agg #[aa xn,aa xd],e1])/\Below V.heap.size V w')
  (RY:∀V,NE E V->au 236 #[.string r] V fun e w'=>e=.returned (.tuple #[.agg #[aa yn,aa yd],e2])/\Below V.heap.size V w')
  (oF:(bo=false/\ans=none)\/(bo=true/\(∃a,e1=eV a)/\ans=none)\/(bo=true/\e1=.nilIface/\(∃a,e2=eV a)/\ans=none)\/(bo=true/\e1=.nilIface/\e2=.nilIface/\ans=some ⟨xn,xd,yn,yd⟩)) (hN:NE E W):
  au 240 #[.string s] W fun e w'=>RpR ans e/\Below W.heap.size W w':=by
 have b0:=bT W (.cells #[aa 0,aa 0,aa 0,aa 0] 168);have K0:=dw W #[aa 0,aa 0,aa 0,aa 0] 168;have HN:=aj hN;clear hN;go_enter func240,ntmps240;go_upto_region 2 with(go_at_call 43;refine(CT _).mono ?_;rintro e w1 ⟨rfl,k,hw⟩;rw[hw]);have bU1:=below_drewN b0 k;obtain⟨U1,hU1⟩:∃U,((W.alloc (.cells #[aa 0,aa 0,aa 0,aa 0] 168)).drewN k)=U:=⟨_,rfl⟩;have K1:U1.heap[W.heap.size]? =some (.cells #[aa 0,aa 0,aa 0,aa 0] 168):=by rw[<- hU1];exact K0
 rw[hU1] at bU1⊢;clear hU1 K0 b0;have R1:=RX U1 (HN.out.below bU1);go_upto_region 3 with(go_at_call 236;refine R1.mono ?_;rintro e w2 ⟨rfl,b2⟩);have b3:=bT w2 (.cells #[aa xn,aa xd] 123);have KX:=dw w2 #[aa xn,aa xd] 123;obtain⟨U2,hU2⟩:∃U,w2.alloc (.cells #[aa xn,aa xd] 123)=U:=⟨_,rfl⟩;obtain⟨BX,hBX⟩:∃b,w2.heap.size=b:=⟨_,rfl⟩;rw[hU2] at b3 KX⊢;rw[hBX] at KX⊢;have tH:=aH b2 b3;have hlt1:W.heap.size<BX:=by have:=b2.size;have:=bu K1;omega
 have K2:=(tH.block _ (bu K1)).trans K1;have bU2:=aH bU1 tH;clear R1 hU2 b2 b3 tH K1 hBX;have R2:=RY U2 (HN.out.below bU2);go_upto_region 4 with(go_at_call 236;refine R2.mono ?_;rintro e w4 ⟨rfl,b4⟩);have b5:=bT w4 (.cells #[aa yn,aa yd] 123);have KY:=dw w4 #[aa yn,aa yd] 123;obtain⟨U3,hU3⟩:∃U,w4.alloc (.cells #[aa yn,aa yd] 123)=U:=⟨_,rfl⟩;obtain⟨BY,hBY⟩:∃b,w4.heap.size=b:=⟨_,rfl⟩;rw[hU3] at b5 KY⊢;rw[hBY] at KY⊢;have b45:=aH b4 b5;have hlt2:BX<BY:=by have:=b4.size;have:=bu KX;omega
 have K3:=(b45.block _ (bu K2)).trans K2;have KX3:=(b45.block _ (bu KX)).trans KX;have bU3:=aH bU2 b45;clear R2 hU3 b4 b5 b45 K2 KX hBY;have x0:=aD KX3 0 _ rfl;have x1:=aD KX3 1 _ rfl;have y0:=aD KY 0 _ rfl;have y1:=aD KY 1 _ rfl;have r0:=aD K3 0 _ rfl;have r1:=aD K3 1 _ rfl;have r2:=aD K3 2 _ rfl;have r3:=aD K3 3 _ rfl;have f0:=dz K3 0;have f1:=dz K3 1;have f2:=dz K3 2;have f3:=dz K3 3;clear CT RX RY;rcases oF with⟨rfl,rfl⟩|⟨rfl,⟨a,rfl⟩,rfl⟩|⟨rfl,rfl,⟨a,rfl⟩,rfl⟩|⟨rfl,rfl,rfl,rfl⟩
 ·go_wp2_with fail
  all_goals refine bodyPost_ret (v:=.tuple #[mW zQt,.bool false]) (by simp[results,results240,go_sem,r0,r1,r2,r3]) rfl ⟨rfl,?_⟩
  all_goals exact(((bU3.setCell ai _).setCell ai _).setCell ai _).setCell ai _
 ·go_wp2_with fail
  all_goals refine bodyPost_ret (v:=.tuple #[mW zQt,.bool false]) (by simp[results,results240,go_sem,r0,r1,r2,r3]) rfl ⟨rfl,?_⟩
  all_goals exact(((bU3.setCell ai _).setCell ai _).setCell ai _).setCell ai _
 ·go_wp2_with fail
  all_goals refine bodyPost_ret (v:=.tuple #[mW zQt,.bool false]) (by simp[results,results240,go_sem,r0,r1,r2,r3]) rfl ⟨rfl,?_⟩
  all_goals exact(((bU3.setCell ai _).setCell ai _).setCell ai _).setCell ai _
 ·go_wp2_with fail
  all_goals refine bodyPost_ret (v:=.tuple #[mW ⟨xn,xd,yn,yd⟩,.bool true]) (by simp[results,results240,go_sem,r0,r1,r2,r3]) rfl ⟨rfl,?_⟩
  all_goals exact(((bU3.setCell ai _).setCell ai _).setCell ai _).setCell ai _
theorem Pd (l:Bs):(rd l).c=0\/(rd l).c=1\/(rd l).c=2\/(rd l).c=3:=by
 rcases Ct l with h|⟨h, -⟩
 ·exact .inl h
 ·exact .inr h
theorem EH (hN:NE E W)(s:aC)(hs:s.size<=1000):
  au 240 #[.string s] W fun e w'=>RpR (ptM s.data.toList) e/\Below W.heap.size W w':=by
 unfold ptM;cases hb:behind 44 s.data.toList with
 |none=>
  exact rR s s ⟨#[]⟩ false _ _ _ _ _ _ none (fun V=>Ux s V hb) (fun V hV=>Ad hV s (by omega)) (fun V hV=>Ad hV ⟨#[]⟩ (by decide)) (.inl ⟨rfl,rfl⟩) hN
 |some b=>
  have hbb:behind 44 s.data.toList=some (⟨b.toArray⟩:aC).data.toList:=hb;have haa:ahead 44 s.data.toList=(⟨(ahead 44 s.data.toList).toArray⟩:aC).data.toList:=rfl;obtain⟨i, -,hl,h3,h4⟩:=pI 44 _ _ hb;have hla:(⟨(ahead 44 s.data.toList).toArray⟩:aC).size<=1000000:=by
   show(ahead 44 s.data.toList).length<=1000000;rw[<- h3,List.length_take];have:s.data.toList.length=s.size:=rfl;omega
  have hlb:(⟨b.toArray⟩:aC).size<=1000000:=by
   show b.length<=1000000;rw[<- h4,List.length_drop];have:s.data.toList.length=s.size:=rfl;omega
  refine rR s ⟨(ahead 44 s.data.toList).toArray⟩ ⟨b.toArray⟩ true _ _ _ _ _ _ _ (fun V=>Uy s _ _ V hbb haa (by omega)) (fun V hV=>Ad hV _ hla) (fun V hV=>Ad hV _ hlb) (.inr ?_) hN;dsimp only;rcases Pd (ahead 44 s.data.toList) with h1|h1
  ·rcases Pd b with h2|h2
   ·exact .inr (.inr ⟨rfl,by rw[h1,qg],by rw[h2,qg],by rw[if_pos ⟨h1,h2⟩]⟩)
   ·exact .inr (.inl ⟨rfl,by rw[h1,qg],⟨_,ym h2⟩,by rw[if_neg (by omega)]⟩)
  ·exact .inl ⟨rfl,⟨_,ym h1⟩,by rw[if_neg (by omega)]⟩
end
end
section
theorem Uz {x:Int}(h1: -1000<=x)(h2:x<=1000):dH x 1=0:=by
 rw[eO];refine⟨by decide,?_,by omega,by decide⟩;unfold gy;simp
end
section
open Go.RowKit
theorem iM.nil (w:ag)(base:Nat):iM w base (.slice none 0 0) []:=eH _ _ _ _
theorem iM.app {w:ag}{base:Nat}{v:ah}{l m:List Qt}{k:Nat}(h:w.ownsRow base 168 4 v (l.length+k) (eu l++eu m))(hk:k=m.length):iM w base v (l++m):=by
 unfold iM;rw[Ay,List.length_append,<- hk];exact h
end
end Go.Proofs.YtecneflbncjhpaaGreatDoor
