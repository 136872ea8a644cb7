/-
  Parts of the proof.
-/
import Derived.Test.YtgphclgmmocdhaaGreatDoorQh42
namespace Go.Proofs.YtgphclgmmocdhaaGreatDoor
open Go.RowKit Go.Shelf
set_option maxHeartbeats 16000000
set_option maxRecDepth 20000
def HL (w0:World) (m:Nat) (y:Value) (wr:World):Prop:=∃ k:Nat,k<=m/\y=.int .i64 k/\Below w0.heap.size w0 wr
theorem two_docs {B:Nat} {tg tg2:Tags} {w w':World} {DB MB:Nat} {p:Int->Option Nat} {M:Dm} {nx c:Nat} {r:Int->Nat} (h:DocS B tg w DB MB p M nx c r) (k:KT tg2 w w') (hn:∀ b t,tg b=some t->tg2 b=none):DocS B tg w' DB MB p M nx c r:=
  ⟨h.w.turn (fun g t ht=>k.block g (h.w.low g t ht).2 (hn g t ht)) k.size,h.d,h.n,h.le,Nat.le_trans h.low k.size⟩
theorem new_at {n:Nd} {i:Int} (h0:0<=i) (h1:i<szN n):∃ e,newD n i=some e:=by
  obtain ⟨j,rfl⟩:∃ j:Nat,i=j:=⟨i.toNat,by omega⟩
  have hl:(elN 0 (-1) n).length=szN n:=elN_len n 0 (-1)
  have hj:j<(elN 0 (-1) n).length:=by rw [hl];omega
  refine ⟨(elN 0 (-1) n)[j],?_⟩
  unfold newD extE
  rw [if_pos (by constructor <;> omega)]
  simp
theorem hides_same {M Mb:Dm} {r:Int->Nat} {n0:Int} {e0 o:Elm} {a b:Nat} (hw:Wd M r) (hn:Cd M a) (hla:a<=100) (he:M n0=some e0) (ho:M e0.parent=some o) {L:List Int} (hL:n0 ∈ L)
    (hMb:∀ i,Mb i=if i ∈ L then none else if i=e0.parent then some ⟨o.name,o.ats,o.parent,o.kids.filter (fun k => !(k==n0))⟩ else M i) (hwb:Wd Mb r) (hcb:Cd Mb b) (hlb:b<=100) (hu:∀ i e,M i=some e->e.name≠kUse):piecesM (atsE M n0 e0 (setA e0.ats kShow kNo)) []=piecesM Mb []:=
  hide_all (hid_of hw he (hid_out hw he ho hL hMb)) (hw.ats he _) hwb (fun i e hi=>by
    obtain ⟨-,x,h1,h2, -⟩:=hid_out hw he ho hL hMb i e hi
    rw [<- h2]
    exact hu i x h1) (hn.ats he _) hcb hla hlb
theorem va_left {M Mb:Dm} {r:Int->Nat} {n0:Int} {e0 o:Elm} (hw:Wd M r) (he:M n0=some e0) (ho:M e0.parent=some o) {L:List Int} (hL:n0 ∈ L)
    (hMb:∀ i,Mb i=if i ∈ L then none else if i=e0.parent then some ⟨o.name,o.ats,o.parent,o.kids.filter (fun k => !(k==n0))⟩ else M i) (hv:VaOk M):VaOk Mb:=fun i e hi=>by
  obtain ⟨-,x,h1,h2,h3, -⟩:=hid_out hw he ho hL hMb i e hi
  rw [<- h2,<- h3]
  exact hv i x h1
def TwoD (n:Nd) (which:Int) (e0:Elm) (B2 B3 DA MA DB MB:Nat) (w:World):Prop:=∃ (tA tB:Tags) (pA pB:Int->Option Nat) (Mb:Dm) (cB:Nat),DocS B2 tA w DA MA pA (atsE (newD n) which e0 (setA e0.ats kShow kNo)) (szN n) (szN n) (rkD n)/\DocS B3 tB w DB MB pB Mb (szN n) cB (rkD n)/\VaOk Mb/\piecesM (atsE (newD n) which e0 (setA e0.ats kShow kNo)) []=piecesM Mb []
theorem hides_any (E:Nat->Addr) (n:Nd) (a0 a1 a2:Value) (which:Int) (W:World) (hN:NE E W) (hD:DE E W) (ha:NdC W a0 a1 a2 n) (hw1:Wf64 which) :
    Calls Tryz.prog 3 #[.agg #[a0,a1,a2],.int .i64 which] W fun e w'=>e=.returned (.bool true)/\Below W.heap.size W w':=by
  obtain ⟨sa,oa,na,ka,oa',na',ka',rfl,rfl,rfl⟩:∃ (sa:ByteArray) (oa:Option Addr) (na ka:Nat) (oa':Option Addr) (na' ka':Nat),a0=.string sa/\a1=.slice oa na ka/\a2=.slice oa' na' ka':=by
    obtain ⟨nm,ats,ks⟩:=n
    unfold NdC at ha
    obtain ⟨rfl, -,⟨o,cap,rfl, -⟩,ok,capk,rfl, -⟩:=ha
    exact ⟨_,_,_,_,_,_,_,rfl,rfl,rfl⟩
  have A0:NB W.heap.size (.string sa) (.slice oa na ka) (.slice oa' na' ka') (W.alloc (.cells #[.string sa,.slice oa na ka,.slice oa' na' ka'] 25)):=mbox W #[.string sa,.slice oa na ka,.slice oa' na' ka'] 25
  have bW:=mal W (.cells #[.string sa,.slice oa na ka,.slice oa' na' ka'] 25)
  go_enter Tryz.func3,Tryz.ntmps3
  go_upto_region 1 with fail
  obtain ⟨V,hV⟩:∃ V,W.alloc (.cells #[.string sa,.slice oa na ka,.slice oa' na' ka'] 25)=V:=⟨_,rfl⟩
  rw [hV] at A0 bW ⊢
  clear hV
  have HN:Hid (NE E V):=hN.below bW
  have HD:Hid (DE E V):=hD.below bW Nat.le.refl
  have HA:Hid (NdC V (.string sa) (.slice oa na ka) (.slice oa' na' ka') n):=NdC.below bW n ha
  clear hN hD ha
  have DK:=scened_any V HN.out HD.out
  go_upto_region 2 with (go_at_call 8;refine DK.mono ?_;rintro e w1 ⟨rfl,B1⟩)
  clear DK
  have FA:=FlatsOf_fit n _ _ _ w1 (NdC.below B1 n HA.out)
  have A1:=(B1.block _ (heap_lt A0)).trans A0
  have x0:=NB.c0 A1
  have x1:=NB.c1 A1
  have x2:=NB.c2 A1
  go_upto_region 3 with (go_at_call 9;refine FA.mono ?_;rintro e w2 ⟨b2,va,rfl,fa⟩)
  clear x0 x1 x2 FA
  have B2:=mbel B1 b2
  have BW2:=mbel bW B2
  rcases fa with ⟨-,rfl⟩ | ⟨hfit,M,g,cap,rfl,hM0,hM1,hM2,hM3,hM4⟩
  · go_wp2_with fail
    go_ret
    exact ⟨rfl,BW2⟩
  have hM0':((M.length:Int)==0)=false:=by rw [beq_eq_false_iff_ne];omega
  by_cases hb40:40<M.length
  · have hb40':40<(M.length:Int):=by omega
    go_wp2_with fail
    go_ret
    exact ⟨rfl,BW2⟩
  have hb40':¬ 40<(M.length:Int):=by omega
  by_cases hwn:which<1
  · go_wp2_with fail
    go_ret
    exact ⟨rfl,BW2⟩
  by_cases hwm:(M.length:Int)<=which
  · go_wp2_with fail
    go_ret
    exact ⟨rfl,BW2⟩
  have hszM:szN n=M.length:=by rw [<- flN_len n 0 (-1) 1];exact hM4.len.symm
  have HSZ:Hid (szN n=M.length):=hszM
  have HM:Hid (RowF w2 g M/\FlRs w1 M (flN 0 (-1) 1 n)):=⟨hM3,hM4⟩
  have hszs:szN n<=1000000:=by omega
  have hcz:(M.length:Int)<=(cap:Int):=by omega
  clear hszM hM3 hM4 hfit
  have A2:=(B2.block _ (heap_lt A0)).trans A0
  have x0:=NB.c0 A2
  have x1:=NB.c1 A2
  have x2:=NB.c2 A2
  by_cases hc:(ckN n 1 0).1=0
  · have NW:=New_S E n _ _ _ w2 (HD.out.below B2 Nat.le.refl).ce (NdC.below B2 n HA.out) hszs hc
    have HC:Hid ((ckN n 1 0).1=0):=hc
    clear hc
    go_upto_region 6 with (go_at_call 10;refine NW.mono ?_;rintro e w3 ⟨b3,DA,MA,tga,pa,rfl,da3⟩)
    have B3:=mbel B2 b3
    have A3:=(B3.block _ (heap_lt A0)).trans A0
    have y0:=NB.c0 A3
    have y1:=NB.c1 A3
    have y2:=NB.c2 A3
    have NW2:=New_S E n _ _ _ w3 (HD.out.below B3 Nat.le.refl).ce (NdC.below B3 n HA.out) hszs HC.out
    clear x0 x1 x2 NW
    go_upto_region 7 with (go_at_call 10;refine NW2.mono ?_;rintro e w4 ⟨b4,DB,MB,tgb,pb,rfl,db4⟩)
    clear y0 y1 y2 NW2
    have da4:=da3.below b4
    have B4:=mbel B3 b4
    have HDA:Hid (DocS w2.heap.size tga w4 DA MA pa (newD n) (szN n) (szN n) (rkD n)):=da4
    have HDB:Hid (DocS w3.heap.size tgb w4 DB MB pb (newD n) (szN n) (szN n) (rkD n)):=db4
    have HLA:Hid (∀ b t,tga b=some t->b<w3.heap.size):=(fun b t ht=>(da3.w.low b t ht).2:∀ b t,tga b=some t->b<w3.heap.size)
    clear da3 da4 db4
    have b24:=mbel b3 b4
    have HROW:Hid (∀ (i:Nat) (x:FlM),M[i]? = some x->w4.cell? ⟨g,i * 4,none⟩=some (.string ⟨x.nm.toArray⟩)):=(fun i x hx=>(b24.cell (cell_lt (HM.out.1 i x hx).1)).trans (HM.out.1 i x hx).1:∀ (i:Nat) (x:FlM),M[i]? = some x->w4.cell? ⟨g,i * 4,none⟩=some (.string ⟨x.nm.toArray⟩))
    go_upto_region 10 with fail
    go_loopw [11] (fun y wr=>∃ k:Nat,k<=M.length/\y=.int .i64 k/\wr=w4/\∀ (i:Nat) (x:FlM),i<k->M[i]? = some x->(x.nm==kUse)=false) (fun y _=>M.length - (intOf y).toNat)
    case atStart=>exact ⟨0,Nat.zero_le _,rfl,rfl,fun i x hi=>absurd hi (Nat.not_lt_zero _)⟩
    case round=>
      obtain ⟨k,hk,rfl,hwr,hno⟩:=hrel
      subst wr
      have HNO:Hid (∀ (i:Nat) (x:FlM),i<k->M[i]? = some x->(x.nm==kUse)=false):=hno
      clear hno
      by_cases hlt:k<M.length
      · have hlt':(k:Int)<(M.length:Int):=by omega
        obtain ⟨x,hx⟩:∃ x,M[k]? = some x:=⟨_,List.getElem?_eq_getElem hlt⟩
        have c0:=HROW.out k x hx
        have HX:Hid (M[k]? = some x):=hx
        have hq:=ba_toL x.nm kUse
        clear hx
        cases hu:(x.nm==kUse) with
        | true=>
          rw [hu] at hq
          unfold kUse at hq hu
          go_wp2_with fail
          go_ret
          exact ⟨rfl,mbel bW B4⟩
        | false=>
          rw [hu] at hq
          have HU:Hid ((x.nm==kUse)=false):=hu
          unfold kUse at hq hu
          go_wp2_with fail
          go_roundw
          case rel=>
            refine ⟨k+1,by omega,by go_num,by first | exact rfl | trivial,fun i y hi hy=>?_⟩
            by_cases hik:i=k
            · subst hik
              have:=HX.out.symm.trans hy
              cases this
              exact HU.out
            · exact HNO.out i y (by omega) hy
          case measure=>simp [intOf];omega
      · obtain rfl:k=M.length:=by omega
        have hge:¬ (M.length:Int)<(M.length:Int):=by omega
        have HNU:Hid (∀ i e,newD n i=some e->e.name≠kUse):=no_use HM.out.2 (fun i x hx=>HNO.out i x (List.getElem?_eq_some_iff.1 hx).1 hx)
        clear HROW HNO
        obtain ⟨e0,he0⟩:=new_at (n:=n) (i:=which) (by omega) (by rw [HSZ.out];omega)
        have SA:=Set_doc (HD.out.below B4 Nat.le.refl) HDA.out.w HDA.out.low which hw1 kShow kNo (by decide) (by decide)
        unfold setM at SA
        simp only [he0] at SA
        rw [if_neg (by decide),if_neg (by decide)] at SA
        have HE0:Hid (newD n which=some e0):=he0
        clear he0
        by_cases hfull:(atOf e0.ats kShow).isSome=false/\12<=e0.ats.length
        · rw [if_pos hfull] at SA
          unfold SetR kShow kNo at SA
          go_wp2_with (go_at_call 11;refine SA.mono ?_;rintro e w5 ⟨rfl,b5⟩)
          go_ret
          exact ⟨rfl,mbel (mbel bW B4) b5⟩
        · rw [if_neg hfull] at SA
          have SA':Calls Tryz.prog 11 #[.pointer (some ⟨DA,0,none⟩),.int .i64 which,.string ⟨#[115,104,111,119]⟩,.string ⟨#[110,111]⟩] w4 fun e w'=>e=.returned .nilIface/\Hid (KT tga w4 w'/\∃ tg',(∀ x,x<w4.heap.size->tg' x=tga x)/\DocW w2.heap.size tg' w' DA MA pa (atsE (newD n) which e0 (setA e0.ats kShow kNo)) (szN n) (szN n)):=SA.mono fun e w' h=>⟨h.1,h.2⟩
          have RM:∀ w5,Hid (KT tga w4 w5/\∃ tg',(∀ x,x<w4.heap.size->tg' x=tga x)/\DocW w2.heap.size tg' w5 DA MA pa (atsE (newD n) which e0 (setA e0.ats kShow kNo)) (szN n) (szN n))->Calls Tryz.prog 12 #[.pointer (some ⟨DB,0,none⟩),.int .i64 which] w5 fun e w'=>e=.returned .nilIface/\Hid (Below w2.heap.size w2 w'/\TwoD n which e0 w2.heap.size w3.heap.size DA MA DB MB w'):=fun w5 h5=>by
            obtain ⟨k5,tg5,ht5,d5⟩:=h5.out
            have na:∀ b t,tgb b=some t->tga b=none:=fun b t ht=>by
              cases h:tga b with
              | none=>rfl
              | some t'=>
                have h1:=HLA.out b t' h
                have h2:=(HDB.out.w.low b t ht).1
                omega
            have db5:=two_docs HDB.out k5 na
            have h0:which≠0:=by omega
            refine (Remove_M db5 which e0 HE0.out h0).mono fun e w' ⟨h1,k6,tg6,p6,Mb,c6,o,L,ht6,d6,ho,hL,hMb⟩=>⟨h1,?_,tg5,tg6,pa,p6,Mb,c6,?_,d6,va_left HDB.out.d HE0.out ho hL hMb (VaOk.new n HC.out),hides_same HDB.out.d HDB.out.n HDB.out.le HE0.out ho hL hMb d6.d d6.n d6.le HNU.out⟩
            · have s4:=b24.size
              have e5:Below w2.heap.size w4 w5:=k5.below (fun b t ht=>(HDA.out.w.low b t ht).1) s4
              have e6:Below w3.heap.size w5 w':=k6.below (fun b t ht=>(HDB.out.w.low b t ht).1) (Nat.le_trans b4.size k5.size)
              exact (b24.trans e5).trans (e6.mono b3.size)
            · have da5:DocS w2.heap.size tg5 w5 DA MA pa (atsE (newD n) which e0 (setA e0.ats kShow kNo)) (szN n) (szN n) (rkD n):=⟨d5,HDA.out.d.ats HE0.out _,HDA.out.n.ats HE0.out _,HDA.out.le,Nat.le_trans HDA.out.low k5.size⟩
              refine two_docs da5 k6 (fun b t ht=>?_)
              cases h:tgb b with
              | none=>rfl
              | some t'=>
                have h2:=HDB.out.w.low b t' h
                rw [ht5 b h2.2] at ht
                have h3:=HLA.out b t ht
                omega
          clear SA hfull HDA HDB HLA
          go_upto_region 16 with (first | (go_at_call 11;refine SA'.mono ?_;rintro e w5 ⟨rfl,h5⟩;have RM5:=RM w5 h5) | (go_at_call 12;refine RM5.mono ?_;rintro e w6 ⟨rfl,h6⟩))
          obtain ⟨b26,tA,tB,pA,pB,Mb,cB,dA,dB,hvB,hpp⟩:=h6.out
          clear h5 h6 RM RM5 SA'
          have B6:=mbel B2 b26
          have PA:=Pieces_any (En.of dA (HN.out.below B6) ((VaOk.new n HC.out).set HE0.out kShow kNo (by decide)))
          have PB:∀ w7,Below w6.heap.size w6 w7->Calls Tryz.prog 13 #[.pointer (some ⟨DB,0,none⟩),.slice none 0 0] w7 fun e w'=>PcsR E w7 (piecesM Mb []) e w'/\Below w7.heap.size w7 w':=fun w7 h7=>Pieces_any (En.of (dB.below h7) (HN.out.below (mbel B6 h7)) hvB)
          rw [<- hpp] at PB
          clear dA dB hvB hpp
          obtain ⟨res,hres⟩:∃ x,piecesM (atsE (newD n) which e0 (setA e0.ats kShow kNo)) []=x:=⟨_,rfl⟩
          rw [hres] at PA PB
          have BW6:=mbel bW B6
          cases res with
          | error ft=>
            clear hres
            have PA':Calls Tryz.prog 13 #[.pointer (some ⟨DA,0,none⟩),.slice none 0 0] w6 fun e w'=>∃ pb,e=.returned (.tuple #[.slice none 0 0,.iface 143 (.pointer (some ⟨pb,0,none⟩))])/\Below w6.heap.size w6 w':=PA.mono fun e w' ⟨⟨u,h1,pb,_,h2,_⟩,h3⟩=>⟨pb,by rw [h1,h2],h3⟩
            have PB':∀ w7,Below w6.heap.size w6 w7->Calls Tryz.prog 13 #[.pointer (some ⟨DB,0,none⟩),.slice none 0 0] w7 fun e w'=>∃ pb,e=.returned (.tuple #[.slice none 0 0,.iface 143 (.pointer (some ⟨pb,0,none⟩))])/\Below w7.heap.size w7 w':=fun w7 h7=>(PB w7 h7).mono fun e w' ⟨⟨u,h1,pb,_,h2,_⟩,h3⟩=>⟨pb,by rw [h1,h2],h3⟩
            clear PA PB
            go_upto_region 17 with (go_at_call 13;refine PA'.mono ?_;rintro e w7 ⟨pb7,rfl,b7⟩)
            have PB7:=PB' w7 b7
            clear PA' PB'
            go_wp2_with (go_at_call 13;refine PB7.mono ?_;rintro e w8 ⟨pb8,rfl,b8⟩)
            go_ret
            exact ⟨rfl,mbel BW6 (mbel b7 b8)⟩
          | ok l=>
            have HUP:Hid (l.Pairwise (fun a b=>a.lv<=b.lv)):=by
              unfold piecesM at hres
              split at hres
              · cases hres
              · next st hst=>
                have h1:sortM st.2=l:=by injection hres
                rw [<- h1]
                exact sortM_up _
            have HPT:Hid (PtFew l):=pieces_pt hres
            clear hres
            have PA':Calls Tryz.prog 13 #[.pointer (some ⟨DA,0,none⟩),.slice none 0 0] w6 fun e w'=>∃ o cap,e=.returned (.tuple #[.slice o l.length cap,.nilIface])/\l.length<=cap/\cap<=maxLen/\Hid (∃ qs,Pcs w6 l (.slice o l.length cap) w' qs)/\Below w6.heap.size w6 w':=PA.mono fun e w' ⟨⟨qs,v,h1,h2,h3,h4,h5⟩,h6⟩=>by
              have hl:l.length=qs.length:=by rw [<- h1,List.length_map]
              obtain ⟨o,cap,hv,hc,hm, -⟩:=row_slice h3
              subst hv
              exact ⟨o,cap,by rw [h2,hl],by omega,hm,⟨qs,h1,by rw [hl];exact h3,h4,h5⟩,h6⟩
            have PB':∀ w7,Below w6.heap.size w6 w7->Calls Tryz.prog 13 #[.pointer (some ⟨DB,0,none⟩),.slice none 0 0] w7 fun e w'=>∃ o cap,e=.returned (.tuple #[.slice o l.length cap,.nilIface])/\l.length<=cap/\cap<=maxLen/\Hid (∃ qs,Pcs w7 l (.slice o l.length cap) w' qs)/\Below w7.heap.size w7 w':=fun w7 h7=>(PB w7 h7).mono fun e w' ⟨⟨qs,v,h1,h2,h3,h4,h5⟩,h6⟩=>by
              have hl:l.length=qs.length:=by rw [<- h1,List.length_map]
              obtain ⟨o,cap,hv,hc,hm, -⟩:=row_slice h3
              subst hv
              exact ⟨o,cap,by rw [h2,hl],by omega,hm,⟨qs,h1,by rw [hl];exact h3,h4,h5⟩,h6⟩
            clear PA PB
            go_upto_region 17 with (go_at_call 13;refine PA'.mono ?_;rintro e w7 ⟨o1,c1,rfl,hc1,hm1,h7,b7⟩)
            have PB7:=PB' w7 b7
            clear PA' PB'
            go_upto_region 18 with (go_at_call 13;refine PB7.mono ?_;rintro e w8 ⟨o2,c2,rfl,hc2,hm2,h8,b8⟩)
            clear PB7
            have HP1:Hid (∃ qs,Pcs w6 l (.slice o1 l.length c1) w8 qs):=by
              obtain ⟨qs,hq⟩:=h7.out
              exact ⟨qs,hq.below b8⟩
            have BW8:=mbel BW6 (mbel b7 b8)
            have hlm:(l.length:Int)<=9223372036854775807:=by rw [maxLen_eq] at hm1;omega
            have hz1:(l.length:Int)<=(c1:Int):=by omega
            have hz2:(l.length:Int)<=(c2:Int):=by omega
            clear h7 hm1 hm2
            go_upto_region 23 with fail
            go_loopw [14] (fun y wr=>HL w8 l.length y wr) (fun y _=>l.length - (intOf y).toNat)
            case atStart=>exact ⟨0,Nat.zero_le _,rfl,Below.refl _ _⟩
            case round=>
              obtain ⟨k,hk,rfl,hb⟩:=hrel
              by_cases hlt:k<l.length
              · have hlt':(k:Int)<(l.length:Int):=by omega
                obtain ⟨q1,P1⟩:=HP1.out
                obtain ⟨q2,P2⟩:=h8.out
                have P1:=P1.below hb
                have P2:=P2.below hb
                have l1:l.length=q1.length:=by rw [<- P1.pc,List.length_map]
                have l2:l.length=q2.length:=by rw [<- P2.pc,List.length_map]
                obtain ⟨x,hx⟩:∃ x,q1[k]? = some x:=⟨_,List.getElem?_eq_getElem (by omega)⟩
                obtain ⟨y,hy⟩:∃ y,q2[k]? = some y:=⟨_,List.getElem?_eq_getElem (by omega)⟩
                have hxy:x.pc=y.pc:=by
                  have e1:(q1.map P5S.pc)[k]? = some x.pc:=by rw [List.getElem?_map,hx];rfl
                  have e2:(q2.map P5S.pc)[k]? = some y.pc:=by rw [List.getElem?_map,hy];rfl
                  rw [P1.pc] at e1
                  rw [P2.pc] at e2
                  exact Option.some.inj (e1.symm.trans e2)
                obtain ⟨y1,y2,y3, -,y5⟩:=pc_same hxy
                obtain ⟨o1',c1',hv1, -,hg1⟩:=row_P P1.row
                obtain ⟨o2',c2',hv2, -,hg2⟩:=row_P P2.row
                obtain ⟨g1,hgo1,R1⟩:=hg1 (by omega)
                obtain ⟨g2,hgo2,R2⟩:=hg2 (by omega)
                have ho1:o1=some ⟨g1,0,none⟩:=by injection hv1 with h1;rw [h1,hgo1]
                have ho2:o2=some ⟨g2,0,none⟩:=by injection hv2 with h1;rw [h1,hgo2]
                subst ho1 ho2
                obtain ⟨u0,u1,u2, -,u4⟩:=R1 k x hx
                obtain ⟨v0,v1,v2, -,v4⟩:=R2 k y hy
                rw [y1] at v0
                rw [y3] at v2
                rw [y5] at v4
                have hpx:=P1.at_ (List.mem_of_getElem? hx)
                have hpy:=P2.at_ (List.mem_of_getElem? hy)
                unfold ptsV at u1 v1
                rw [y2] at v1 hpy
                have hlp:x.pts.length<=1000:=by
                  have h1:x.pc ∈ l:=by rw [<- P1.pc];exact List.mem_map_of_mem (List.mem_of_getElem? hx)
                  have:=HPT.out x.pc h1
                  have h2:x.pc.pts=x.pts:=rfl
                  rw [h2] at this
                  omega
                have SP:=fun U (hU:Below wr.heap.size wr U)=>samePoints_same x.pts x.o y.o x.cap y.cap U hlp (hpx.below hU Nat.le.refl) (hpy.below hU Nat.le.refl)
                have HLV:Hid (∀ j,k=j+1->∃ z,wr.cell? ⟨g1,j * 5+4,none⟩=some (.int .i64 z)/\z<=x.lv):=(fun j hj=>by
                  obtain ⟨z,hz⟩:∃ z,q1[j]? = some z:=⟨_,List.getElem?_eq_getElem (by omega)⟩
                  refine ⟨z.lv,(R1 j z hz).2.2.2.2,?_⟩
                  have hp:=HUP.out
                  rw [<- P1.pc,List.pairwise_map,List.pairwise_iff_getElem] at hp
                  obtain ⟨a1,rfl⟩:=List.getElem?_eq_some_iff.1 hz
                  obtain ⟨a2,rfl⟩:=List.getElem?_eq_some_iff.1 hx
                  exact hp j k a1 a2 (by omega):∀ j,k=j+1->∃ z,wr.cell? ⟨g1,j * 5+4,none⟩=some (.int .i64 z)/\z<=x.lv)
                have KP:∀ U,Below wr.heap.size wr U->U.cell? ⟨g1,k * 5,none⟩=some (.int .i64 x.nd)/\U.cell? ⟨g1,k * 5+1,none⟩=some (.slice x.o x.pts.length x.cap)/\U.cell? ⟨g1,k * 5+2,none⟩=some (bV x.fill)/\U.cell? ⟨g1,k * 5+4,none⟩=some (.int .i64 x.lv)/\U.cell? ⟨g2,k * 5,none⟩=some (.int .i64 x.nd)/\U.cell? ⟨g2,k * 5+1,none⟩=some (.slice y.o x.pts.length y.cap)/\U.cell? ⟨g2,k * 5+2,none⟩=some (bV x.fill)/\U.cell? ⟨g2,k * 5+4,none⟩=some (.int .i64 x.lv):=fun U hU=>⟨(hU.cell (cell_lt u0)).trans u0,(hU.cell (cell_lt u1)).trans u1,(hU.cell (cell_lt u2)).trans u2,(hU.cell (cell_lt u4)).trans u4,(hU.cell (cell_lt v0)).trans v0,(hU.cell (cell_lt v1)).trans v1,(hU.cell (cell_lt v2)).trans v2,(hU.cell (cell_lt v4)).trans v4⟩
                clear P1 P2 l1 l2 hx hy hxy y1 y2 y3 y5 hv1 hv2 hg1 hg2 hgo1 hgo2 R1 R2 hpx hpy hlp u0 u1 u2 u4 v0 v1 v2 v4 HP1 h8
                go_upto_region 25 with fail
                go_region_held3 (fun w'=>w'.cell? ⟨g1,k * 5,none⟩=some (.int .i64 x.nd)/\w'.cell? ⟨g1,k * 5+1,none⟩=some (.slice x.o x.pts.length x.cap)/\w'.cell? ⟨g1,k * 5+2,none⟩=some (bV x.fill)/\w'.cell? ⟨g1,k * 5+4,none⟩=some (.int .i64 x.lv)/\w'.cell? ⟨g2,k * 5,none⟩=some (.int .i64 x.nd)/\w'.cell? ⟨g2,k * 5+1,none⟩=some (.slice y.o x.pts.length y.cap)/\w'.cell? ⟨g2,k * 5+2,none⟩=some (bV x.fill)/\w'.cell? ⟨g2,k * 5+4,none⟩=some (.int .i64 x.lv)) (first | exact KP _ (below_drewN (Below.refl _ _) 1) | exact KP _ bb9) (first | (go_at_call 14;refine (SP _ (below_drewN (Below.refl _ _) 1)).mono ?_;rintro e w9 ⟨rfl,b9⟩;have bb9:Below wr.heap.size wr w9:=mbel (below_drewN (Below.refl wr.heap.size wr) 1) b9))
                have k9:=(KP w9 bb9).2.2.2.1
                have hb9:Below w8.heap.size w8 w9:=mbel hb bb9
                clear KP SP
                by_cases h0:k=0
                · have h0z:¬ (0:Int)<(k:Int):=by omega
                  have h0n:¬ 0<k:=by omega
                  clear HLV h0
                  go_upto_region 27 with fail
                  go_quiet (fail)
                  go_wp2_with fail
                  go_roundw
                  case rel=>exact ⟨k+1,by omega,by go_num,by first | exact mdrew' hb9 | exact mdrew _ hb9⟩
                  case measure=>simp [intOf];omega
                · have h0z:(0:Int)<(k:Int):=by omega
                  have h0n:0<k:=by omega
                  obtain ⟨jj,hjj⟩:∃ jj,k=jj+1:=⟨k - 1,by omega⟩
                  obtain ⟨z,hz,hzl⟩:=HLV.out jj hjj
                  have z9:=(bb9.cell (cell_lt hz)).trans hz
                  have hj3:(k:Int) - 1=(jj:Int):=by omega
                  have hj4:IntKind.i64.wrap (jj:Int)=(jj:Int):=IntWalk.i64_in _ (by omega)
                  have hj5:(jj:Int)<(l.length:Int):=by omega
                  have hj6:¬ (jj:Int)<0:=by omega
                  have hnl:¬ x.lv<z:=by omega
                  clear HLV h0 hz hjj hzl
                  go_upto_region 27 with fail
                  go_quiet (fail)
                  go_wp2_with fail
                  go_roundw
                  case rel=>exact ⟨k+1,by omega,by go_num,by first | exact mdrew' hb9 | exact mdrew _ hb9⟩
                  case measure=>simp [intOf];omega
              · obtain rfl:k=l.length:=by omega
                have hge:¬ (l.length:Int)<(l.length:Int):=by omega
                go_wp2_with fail
                go_ret
                exact ⟨rfl,mbel BW8 hb⟩
  · have NW:=New_no E n _ _ _ w2 (HD.out.below B2 Nat.le.refl).ce (NdC.below B2 n HA.out) hszs hc
    go_upto_region 6 with (go_at_call 10;refine NW.mono ?_;rintro e w3 ⟨b3,pb3,rfl⟩)
    have B3:=mbel B2 b3
    have A3:=(B3.block _ (heap_lt A0)).trans A0
    have y0:=NB.c0 A3
    have y1:=NB.c1 A3
    have y2:=NB.c2 A3
    have NW2:=New_no E n _ _ _ w3 (HD.out.below B3 Nat.le.refl).ce (NdC.below B3 n HA.out) hszs hc
    clear x0 x1 x2 NW
    go_wp2_with (go_at_call 10;refine NW2.mono ?_;rintro e w4 ⟨b4,pb4,rfl⟩)
    go_ret
    exact ⟨rfl,mbel bW (mbel B3 b4)⟩
end Go.Proofs.YtgphclgmmocdhaaGreatDoor
