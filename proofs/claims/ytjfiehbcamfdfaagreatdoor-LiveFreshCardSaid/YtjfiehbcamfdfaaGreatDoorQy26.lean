/-
  Parts of the proof.
-/
import Derived.Test.YtjfiehbcamfdfaaGreatDoorQy25
namespace Go.Proofs.YtjfiehbcamfdfaaGreatDoor
open Go.Proofs.Tryz
section
open Go.RowKit
theorem aG {w:World}{b:Nat}{cs:Array Value}{t:TypeId}{f:Nat×Nat}(h:w.heap[b]? =some (.cells cs t f))(k:Nat)(v:Value)(hv:cs[k]? =some v):w.cell? (ag b k)=some v:=by
 simp only[World.cell?,h];exact hv
theorem cO {w:World}{b:Nat}{cs:Array Value}{t:TypeId}(h:w.heap[b]? =some (.cells cs t (0,0)))(k:Nat):w.frozen? ⟨b,k,none⟩=false:=by
 simp[World.frozen?,h]
theorem gq {X:World}{k:Nat}{v:Obj}(o:Obj)(h:X.heap[k]? =some v):(X.alloc o).heap[k]? =some v:=((aL X o).block k (Array.getElem?_eq_some_iff.1 h).1).trans h
theorem oV {X:World}{k:Nat}(o:Obj)(h:X.heap.size=k):(X.alloc o).heap[k]? =some o:=by rw[<- h];exact World.alloc_heap_new X o
theorem a7V (w:World)(o0 o1 o2 o3 o4 o5:Obj):∀U,(((((w.alloc o0).alloc o1).alloc o2).alloc o3).alloc o4).alloc o5=U->
  U.heap[w.heap.size]? =some o0/\U.heap[w.heap.size+1]? =some o1/\U.heap[w.heap.size+1+1]? =some o2/\U.heap[w.heap.size+1+1+1]? =some o3/\U.heap[w.heap.size+1+1+1+1]? =some o4/\U.heap[w.heap.size+1+1+1+1+1]? =some o5/\Below w.heap.size w U:=by
 rintro U rfl;refine⟨?_,?_,?_,?_,?_,?_,?_⟩
 ·exact gq _ (gq _ (gq _ (gq _ (gq _ (oV _ rfl)))))
 ·exact gq _ (gq _ (gq _ (gq _ (oV _ (by simp)))))
 ·exact gq _ (gq _ (gq _ (oV _ (by simp))))
 ·exact gq _ (gq _ (oV _ (by simp)))
 ·exact gq _ (oV _ (by simp))
 ·exact oV _ (by simp)
 ·exact((((((Below.refl _ _).alloc eU _).alloc (by simp) _).alloc (by simp;omega) _).alloc (by simp;omega) _).alloc (by simp;omega) _).alloc (by simp;omega) _
theorem a1J {an ad bn bd:Int}(ha:bK an ad=0)(hb:bK bn bd=0):(add an ad bn bd).c=0\/(add an ad bn bd).c=2:=by
 have e:add an ad bn bd=low (an*bd+bn*ad) (ad*bd):=by unfold add;rw[if_neg (by simp[ha]),if_neg (by simp[hb])]
 rw[e];rcases a0Z (n:=an*bd+bn*ad) (d:=ad*bd) with h|h
 ·rw[h];exact .inr rfl
 ·exact .inl h
end
section
open Go.RowKit Go.Shelf
set_option maxHeartbeats 4000000
set_option maxRecDepth 20000
theorem N9 (s:ByteArray)(w:World)(h:behind 44 s.data.toList=none):
  ak 77 #[.string s,.string ⟨#[44]⟩] w fun e w'=>e=.returned (.tuple #[.string s,.string ⟨#[]⟩,.bool false])/\∃k,w'=w.drewN k:=by
 obtain⟨hi,_⟩:=index_none 44 _ h;have HI:=Tryz.stringslite_Index_one s 44;rw[hi] at HI;have HH:Hid (∀w,ak 122 #[.string s,.string ⟨#[44]⟩] w fun e w'=>e=.returned (aa (-1))/\w'=w):=HI;clear HI hi h;go_enter func77,ntmps77;go_wp2_with(go_at_call 122;refine(HH.out _).mono ?_;rintro e w' ⟨rfl,rfl⟩);go_ret3;exact⟨rfl,0,rfl⟩
theorem Na (s a b:ByteArray)(w:World)(hb:behind 44 s.data.toList=some b.data.toList)(ha:ahead 44 s.data.toList=a.data.toList)(hm:s.size<=9223372036854475807):
  ak 77 #[.string s,.string ⟨#[44]⟩] w fun e w'=>e=.returned (.tuple #[.string a,.string b,.bool true])/\∃k,w'=w.drewN k:=by
 obtain⟨i,hi,hl,h3,h4⟩:=oI 44 _ _ hb;rw[jB] at hl;have HI:=Tryz.stringslite_Index_one s 44;rw[hi] at HI;have HH:Hid (∀w,ak 122 #[.string s,.string ⟨#[44]⟩] w fun e w'=>e=.returned (aa i)/\w'=w):=HI;have e1:s.extract 0 i=a:=ext_list (by rw[Lib.extract_data];simpa[ha] using h3);have e2:s.extract (i+1) s.size=b:=ext_list (by rw[Lib.extract_to_end];exact h4);clear HI hi h3 h4 ha hb;have hl1:(i:Int)<(s.size:Int):=by omega
 have hl2:(i:Int)+1<=(s.size:Int):=by omega
 have h0:(0:Int)<=(i:Int):=by omega
 go_enter func77,ntmps77;go_wp2_with(go_at_call 122;refine(HH.out _).mono ?_;rintro e w' ⟨rfl,rfl⟩)
 go_quiet (fail)
 go_wp2;go_ret3;exact⟨rfl,_,rfl⟩
theorem Rp (s:ByteArray)(w:World)(h:behind 44 s.data.toList=none):
  ak 44 #[.string s,.string ⟨#[44]⟩] w fun e w'=>e=.returned (.tuple #[.string s,.string ⟨#[]⟩,.bool false])/\∃k,w'=w.drewN k:=by
 have HB:Hid (behind 44 s.data.toList=none):=h;clear h;go_enter func44,ntmps44;go_wp2_with(go_at_call 77;refine(N9 s _ HB.out).mono ?_;rintro e w' ⟨rfl,k,rfl⟩);go_ret3;exact⟨rfl,_,rfl⟩
theorem Rq (s a b:ByteArray)(w:World)(hb:behind 44 s.data.toList=some b.data.toList)(ha:ahead 44 s.data.toList=a.data.toList)(hm:s.size<=9223372036854475807):
  ak 44 #[.string s,.string ⟨#[44]⟩] w fun e w'=>e=.returned (.tuple #[.string a,.string b,.bool true])/\∃k,w'=w.drewN k:=by
 have HB:Hid (behind 44 s.data.toList=some b.data.toList):=hb;have HA:Hid (ahead 44 s.data.toList=a.data.toList):=ha;clear ha hb;go_enter func44,ntmps44;go_wp2_with(go_at_call 77;refine(Na s a b _ HB.out HA.out hm).mono ?_;rintro e w' ⟨rfl,k,rfl⟩);go_ret3;exact⟨rfl,_,rfl⟩
theorem xw {E:Nat->Addr}{c:Nat}(h:c=1\/c=2\/c=3):Lc (E 1) (E 2) (E 3) (E 2) c=eV (E c):=by
 rcases h with rfl|rfl|rfl<;>rfl
theorem pg {E:Nat->Addr}:Lc (E 1) (E 2) (E 3) (E 2) 0=.nilIface:=rfl
abbrev zQt:Qt:=⟨0,0,0,0⟩
def RpR (x:Option Qt)(e:Ending):Prop:=match x with
 |some q=>e=.returned (.tuple #[lS q,.bool true])
 |none=>e=.returned (.tuple #[lS zQt,.bool false])
section
variable {E:Nat->Addr}{W:World}
theorem zb (hN:NE E W)(s:ByteArray)(hs:s.size<=1000000):ak 232 #[.string s] W fun e w'=>e=.returned (.tuple #[.agg #[aa (rd s.data.toList).n,aa (rd s.data.toList).d],Lc (E 1) (E 2) (E 3) (E 2) (rd s.data.toList).c])/\Below W.heap.size W w':=
 rO (E 1) (E 2) (E 3) (E 2) s W hN.e3 hN.c1 (by omega)
theorem qW (s l r:ByteArray)(bo:Bool)(xn xd yn yd:Int)(e1 e2:Value)(ans:Option Qt)
  (CT:∀V,ak 44 #[.string s,.string ⟨#[44]⟩] V fun e w'=>e=.returned (.tuple #[.string l,.string r,.bool bo])/\∃k,w'=V.drewN k)
  (RX:∀V,NE E V->ak 232 #[.string l] V fun e w'=>e=.returned (.tuple #[.agg #[aa xn,aa xd],e1])/\Below V.heap.size V w')
  (RY:∀V,NE E V->ak 232 #[.string r] V fun e w'=>e=.returned (.tuple #[.agg #[aa yn,aa yd],e2])/\Below V.heap.size V w')
  (su:(bo=false/\ans=none)\/(bo=true/\(∃a,e1=eV a)/\ans=none)\/(bo=true/\e1=.nilIface/\(∃a,e2=eV a)/\ans=none)\/(bo=true/\e1=.nilIface/\e2=.nilIface/\ans=some ⟨xn,xd,yn,yd⟩)) (hN:NE E W):
  ak 236 #[.string s] W fun e w'=>RpR ans e/\Below W.heap.size W w':=by
 have b0:=aW W (.cells #[aa 0,aa 0,aa 0,aa 0] 177);have K0:=dh W #[aa 0,aa 0,aa 0,aa 0] 177;have HN:Hid (NE E W):=hN;clear hN;go_enter func236,ntmps236;go_upto_region 2 with(go_at_call 44;refine(CT _).mono ?_;rintro e w1 ⟨rfl,k,hw⟩;rw[hw]);have bU1:=below_drewN b0 k;obtain⟨U1,hU1⟩:∃U,((W.alloc (.cells #[aa 0,aa 0,aa 0,aa 0] 177)).drewN k)=U:=⟨_,rfl⟩;have K1:U1.heap[W.heap.size]? =some (.cells #[aa 0,aa 0,aa 0,aa 0] 177):=by rw[<- hU1];exact K0
 rw[hU1] at bU1⊢;clear hU1 K0 b0;have R1:=RX U1 (HN.out.below bU1);go_upto_region 3 with(go_at_call 232;refine R1.mono ?_;rintro e w2 ⟨rfl,b2⟩);have b3:=aW w2 (.cells #[aa xn,aa xd] 127);have KX:=dh w2 #[aa xn,aa xd] 127;obtain⟨U2,hU2⟩:∃U,w2.alloc (.cells #[aa xn,aa xd] 127)=U:=⟨_,rfl⟩;obtain⟨BX,hBX⟩:∃b,w2.heap.size=b:=⟨_,rfl⟩;rw[hU2] at b3 KX⊢;rw[hBX] at KX⊢;have sj:=az b2 b3;have hlt1:W.heap.size<BX:=by have:=b2.size;have:=aN K1;omega
 have K2:=(sj.block _ (aN K1)).trans K1;have bU2:=az bU1 sj;clear R1 hU2 b2 b3 sj K1 hBX;have R2:=RY U2 (HN.out.below bU2);go_upto_region 4 with(go_at_call 232;refine R2.mono ?_;rintro e w4 ⟨rfl,b4⟩);have b5:=aW w4 (.cells #[aa yn,aa yd] 127);have KY:=dh w4 #[aa yn,aa yd] 127;obtain⟨U3,hU3⟩:∃U,w4.alloc (.cells #[aa yn,aa yd] 127)=U:=⟨_,rfl⟩;obtain⟨BY,hBY⟩:∃b,w4.heap.size=b:=⟨_,rfl⟩;rw[hU3] at b5 KY⊢;rw[hBY] at KY⊢;have b45:=az b4 b5;have hlt2:BX<BY:=by have:=b4.size;have:=aN KX;omega
 have K3:=(b45.block _ (aN K2)).trans K2;have KX3:=(b45.block _ (aN KX)).trans KX;have bU3:=az bU2 b45;clear R2 hU3 b4 b5 b45 K2 KX hBY;have x0:=aA KX3 0 _ rfl;have x1:=aA KX3 1 _ rfl;have y0:=aA KY 0 _ rfl;have y1:=aA KY 1 _ rfl;have r0:=aA K3 0 _ rfl;have r1:=aA K3 1 _ rfl;have r2:=aA K3 2 _ rfl;have r3:=aA K3 3 _ rfl;have f0:=cO K3 0;have f1:=cO K3 1;have f2:=cO K3 2;have f3:=cO K3 3;clear CT RX RY;rcases su with⟨rfl,rfl⟩|⟨rfl,⟨a,rfl⟩,rfl⟩|⟨rfl,rfl,⟨a,rfl⟩,rfl⟩|⟨rfl,rfl,rfl,rfl⟩
 ·go_wp2_with fail
  all_goals refine bodyPost_ret (v:=.tuple #[lS zQt,.bool false]) (by simp[results,results236,go_sem,r0,r1,r2,r3]) rfl ⟨rfl,?_⟩
  all_goals exact(((bU3.setCell eU _).setCell eU _).setCell eU _).setCell eU _
 ·go_wp2_with fail
  all_goals refine bodyPost_ret (v:=.tuple #[lS zQt,.bool false]) (by simp[results,results236,go_sem,r0,r1,r2,r3]) rfl ⟨rfl,?_⟩
  all_goals exact(((bU3.setCell eU _).setCell eU _).setCell eU _).setCell eU _
 ·go_wp2_with fail
  all_goals refine bodyPost_ret (v:=.tuple #[lS zQt,.bool false]) (by simp[results,results236,go_sem,r0,r1,r2,r3]) rfl ⟨rfl,?_⟩
  all_goals exact(((bU3.setCell eU _).setCell eU _).setCell eU _).setCell eU _
 ·go_wp2_with fail
  all_goals refine bodyPost_ret (v:=.tuple #[lS ⟨xn,xd,yn,yd⟩,.bool true]) (by simp[results,results236,go_sem,r0,r1,r2,r3]) rfl ⟨rfl,?_⟩
  all_goals exact(((bU3.setCell eU _).setCell eU _).setCell eU _).setCell eU _
theorem Nb (l:Bs):(rd l).c=0\/(rd l).c=1\/(rd l).c=2\/(rd l).c=3:=by
 rcases Bh l with h|⟨h, -⟩
 ·exact .inl h
 ·exact .inr h
theorem Df (hN:NE E W)(s:ByteArray)(hs:s.size<=1000):
  ak 236 #[.string s] W fun e w'=>RpR (ptM s.data.toList) e/\Below W.heap.size W w':=by
 unfold ptM;cases hb:behind 44 s.data.toList with
 |none=>
  exact qW s s ⟨#[]⟩ false _ _ _ _ _ _ none (fun V=>Rp s V hb) (fun V hV=>zb hV s (by omega)) (fun V hV=>zb hV ⟨#[]⟩ (by decide)) (.inl ⟨rfl,rfl⟩) hN
 |some b=>
  have hbb:behind 44 s.data.toList=some (⟨b.toArray⟩:ByteArray).data.toList:=hb;have haa:ahead 44 s.data.toList=(⟨(ahead 44 s.data.toList).toArray⟩:ByteArray).data.toList:=rfl;obtain⟨i, -,hl,h3,h4⟩:=oI 44 _ _ hb;have hla:(⟨(ahead 44 s.data.toList).toArray⟩:ByteArray).size<=1000000:=by
   show(ahead 44 s.data.toList).length<=1000000;rw[<- h3,List.length_take];have:s.data.toList.length=s.size:=rfl;omega
  have hlb:(⟨b.toArray⟩:ByteArray).size<=1000000:=by
   show b.length<=1000000;rw[<- h4,List.length_drop];have:s.data.toList.length=s.size:=rfl;omega
  refine qW s ⟨(ahead 44 s.data.toList).toArray⟩ ⟨b.toArray⟩ true _ _ _ _ _ _ _ (fun V=>Rq s _ _ V hbb haa (by omega)) (fun V hV=>zb hV _ hla) (fun V hV=>zb hV _ hlb) (.inr ?_) hN;dsimp only;rcases Nb (ahead 44 s.data.toList) with h1|h1
  ·rcases Nb b with h2|h2
   ·exact .inr (.inr ⟨rfl,by rw[h1,pg],by rw[h2,pg],by rw[if_pos ⟨h1,h2⟩]⟩)
   ·exact .inr (.inl ⟨rfl,by rw[h1,pg],⟨_,xw h2⟩,by rw[if_neg (by omega)]⟩)
  ·exact .inl ⟨rfl,⟨_,xw h1⟩,by rw[if_neg (by omega)]⟩
end
end
end Go.Proofs.YtjfiehbcamfdfaaGreatDoor
