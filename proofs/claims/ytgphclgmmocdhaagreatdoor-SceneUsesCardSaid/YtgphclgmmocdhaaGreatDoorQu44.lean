/-
  Parts of the proof.
-/
import Derived.Test.YtgphclgmmocdhaaGreatDoorQu43
namespace Go.Proofs.YtgphclgmmocdhaaGreatDoor
open Go.ChangeShapes Go.WideShapes Go.RowKit
def numU (k:Nat):Nat:=if k=5 then 12 else k
theorem ns_of2 {W:World} {l:List (String × DataW Unit)} (idx:Nat->Nat) (hi:∀ j k,j≠k->1<=j->1<=k->j<=11->k<=11->idx j≠idx k) (hl:∀ k,1<=k->k<=11->l[idx k]? = some (errEntryS (numU k))) (hx:("internal/strconv.uint64pow10", Rows.laid_internal_strconv_uint64pow10) ∈ l) (h:laidMet Tryz.prog l W):∃ E,NE E W/\CE E W:=by
 have hT:Lib.TabIs Tryz.prog W "internal/strconv.uint64pow10" .u64 Lib.pow10Tab:=
  Lib.tabIs_of_head (rest:=[]) gPow (by kernel_rfl) Tryz.underlying413 Tryz.underlying370 (by kernel_rfl) (by kernel_rfl) (laidMet_one h hx)
 have hok:∀ k,1<=k->k<=11->1<=numU k/\numU k<=12:=fun k h1 h2=>by unfold numU;split <;> omega
 obtain ⟨ps,hv,hn,hk⟩:=h
 obtain ⟨ms,f,S⟩:=sentOkS
 obtain ⟨a,ha,hne⟩:=sents S hv hn hk
 have key:∀ k,1<=k->k<=11->W.cell? ⟨errGlobalS (numU k),0,none⟩=some (.iface 409 (.pointer (some (a (idx k)))))/\∃ c t,W.heap[(a (idx k)).block]? = some (.cells c t (0,0)):=by
  intro k h1 h2
  obtain ⟨⟨text,ht⟩,hg,hty⟩:=errEntryS_ok (numU k) (hok k h1 h2).1 (hok k h1 h2).2
  have:=ha (idx k) (errEntryS (numU k)).1 text (errGlobalS (numU k)) (by rw [hl k h1 h2,<- ht]) hg hty
  exact ⟨this.1,this.2.1⟩
 have c:=fun k h1 h2=>(key k h1 h2).1
 refine ⟨fun k=>a (idx k),⟨c 1 (by decide) (by decide),c 2 (by decide) (by decide),c 3 (by decide) (by decide),c 7 (by decide) (by decide),c 9 (by decide) (by decide),c 10 (by decide) (by decide),⟨_,c 5 (by decide) (by decide)⟩,⟨_,c 11 (by decide) (by decide)⟩,hT,fun k k1 k2=>(key k k1 (by omega)).2,?_⟩,
  ⟨c 4 (by decide) (by decide),c 6 (by decide) (by decide),c 7 (by decide) (by decide),c 8 (by decide) (by decide),c 10 (by decide) (by decide)⟩⟩
 intro j k j1 j2 k1 k2 hjk
 obtain ⟨⟨t1,ht1⟩,hg1,hty1⟩:=errEntryS_ok (numU j) (hok j j1 (by omega)).1 (hok j j1 (by omega)).2
 obtain ⟨⟨t2,ht2⟩,hg2,hty2⟩:=errEntryS_ok (numU k) (hok k k1 (by omega)).1 (hok k k1 (by omega)).2
 exact hne (idx j) (idx k) _ _ t1 t2 _ _ (hi j k hjk j1 k1 (by omega) (by omega)) (by rw [hl j j1 (by omega),<- ht1]) (by rw [hl k k1 (by omega),<- ht2]) hg1 hg2 hty1 hty2
end Go.Proofs.YtgphclgmmocdhaaGreatDoor
