/- Part 22 of the proof: TxT, TxU, JoD, JoE, StepL. -/
import Derived.Deep.WholeRow
import Derived.Test.YtljefjngmembkaaGreatDoorW21
import Derived.Test.YtljefjngmembkaaGreatDoorW14
import Derived.Test.YtljefjngmembkaaGreatDoorW17
import Derived.Test.YtljefjngmembkaaGreatDoorW13
/- parse. -/
namespace Go.Proofs.YtljefjngmembkaaGreatDoor
set_option linter.all false
open Go.RowKit Go.Lib
set_option maxHeartbeats 2000000 in
set_option maxRecDepth 1000000 in
theorem parse_any (T : ByteArray) (hT : T.size ≤ 900) (w : World) (hl : LibW w) :
    Calls Tryz.prog 35 #[.string T] w (PRQ T.data.toList w) := by
  have HL0 := hidMk hl
  have HT := hidMk hT
  have ba : Bk (w.alloc (.cells (jobC zeroJb (.slice none 0 0)) 30)) w.heap.size 30 (jobC zeroJb (.slice none 0 0)) := Bk.new _ _ _
  have HBA := hidMk ba
  have hza : w.heap.size < (w.alloc (.cells (jobC zeroJb (.slice none 0 0)) 30)).heap.size := by simp
  have HZA := hidMk hza
  have HB0 := hidMk (below0 w (.cells (jobC zeroJb (.slice none 0 0)) 30))
  clear hl ba hza hT
  go_enter Tryz.func35,Tryz.ntmps35
  go_wp2_with fail
  refine (rules_any _).mono ?_
  rintro e w1 ⟨rb,rfl,hrb,hrs,hb1⟩
  have HRB := hidMk hrb
  have HRN := hidMk (And.intro hrb.lt (show rb ≠ w.heap.size by have h1 := HZA.out; have h2 := hrs; simp only [zeroJb,jobC] at h1 h2; omega))
  have HB1 : Hid (Below w.heap.size w w1) := hidMk (HB0.out.trans (hb1.mono (Nat.le_of_lt HZA.out)))
  have HP1 : Hid (PJ w.heap.size w1.heap.size w1 zeroJb (.slice none 0 0) w1) := hidMk ⟨HBA.out.below hb1 HZA.out,⟨rfl,.inl ⟨rfl,rfl⟩⟩,PB.refl _ _ _,Nat.lt_of_lt_of_le HZA.out hb1.size,Nat.le_refl _⟩
  obtain ⟨g,hg⟩ : ∃ x,x = w.heap.size := ⟨_,rfl⟩
  have HG := hidMk (show w.heap.size ≤ g from Nat.le_of_eq hg.symm)
  rw [← hg] at HRN HP1
  have HLW : Hid (∀ {J : Jb} {sv : Value} {wr : World},PJ g w1.heap.size w1 J sv wr → LibW wr) := hidMk fun h => HL0.out.up (h.base HB1.out HG.out)
  dsimp only
  rw [← hg]
  clear hrb hrs hb1 hg HBA HB0 HZA
  go_wp2_with fail
  refine wp_loop (fun a_ wr => ∃ (u1 u5 u6 u7 u8 u9 u10 u11 u12 u13 u14 u15 u16 u17 u18 u19 u20 u21 u22 u23 u24 u25 u26 u27 u28 u29 u30 u31 u32 u33 u34 u35 u36 u37 u38 u39 u40 u41 u42 u43 u44 u45 u46 u47 u48 u49 u50 u51 u52 u53 u54 u55 u56 u57 u58 u59 u60 u61 u62 u63 : Value) (X : ByteArray) (line off n : Nat) (J : Jb) (sv : Value),Hid (PJ g w1.heap.size w1 J sv wr) ∧ Hid (Pos T.data.toList X.data.toList J line off n) ∧ a_ = ⟨#[(.string X),u1,(.pointer (some ⟨g,0,none⟩)),(.int .i64 line),(.slice (some ⟨rb,off,none⟩) n n),u5,u6,u7,u8,u9,u10,u11,u12,u13,u14,u15,u16,u17,u18,u19,u20,u21,u22,u23,u24,u25,u26,u27,u28,u29,u30,u31,u32,u33,u34,u35,u36,u37,u38,u39,u40,u41,u42,u43,u44,u45,u46,u47,u48,u49,u50,u51,u52,u53,u54,u55,u56,u57,u58,u59,u60,u61,u62,u63],[]⟩) (fun a_ _ => strLen (a_.tmps.getD 0 undef)) ?_ ?_
  · exact ⟨_,_,_,_,_,_,_,_,_,_,_,_,_,_,_,_,_,_,_,_,_,_,_,_,_,_,_,_,_,_,_,_,_,_,_,_,_,_,_,_,_,_,_,_,_,_,_,_,_,_,_,_,_,_,_,_,_,_,_,_,T,1,0,4,zeroJb,_,HP1,hidMk ⟨⟨by omega,Nat.zero_le _⟩,.inl ⟨rfl,rfl,rfl,rfl,rfl⟩⟩,rfl⟩
  · intro a_ wr hx
    obtain ⟨u1,hx⟩ := hx
    obtain ⟨u5,hx⟩ := hx
    obtain ⟨u6,hx⟩ := hx
    obtain ⟨u7,hx⟩ := hx
    obtain ⟨u8,hx⟩ := hx
    obtain ⟨u9,hx⟩ := hx
    obtain ⟨u10,hx⟩ := hx
    obtain ⟨u11,hx⟩ := hx
    obtain ⟨u12,hx⟩ := hx
    obtain ⟨u13,hx⟩ := hx
    obtain ⟨u14,hx⟩ := hx
    obtain ⟨u15,hx⟩ := hx
    obtain ⟨u16,hx⟩ := hx
    obtain ⟨u17,hx⟩ := hx
    obtain ⟨u18,hx⟩ := hx
    obtain ⟨u19,hx⟩ := hx
    obtain ⟨u20,hx⟩ := hx
    obtain ⟨u21,hx⟩ := hx
    obtain ⟨u22,hx⟩ := hx
    obtain ⟨u23,hx⟩ := hx
    obtain ⟨u24,hx⟩ := hx
    obtain ⟨u25,hx⟩ := hx
    obtain ⟨u26,hx⟩ := hx
    obtain ⟨u27,hx⟩ := hx
    obtain ⟨u28,hx⟩ := hx
    obtain ⟨u29,hx⟩ := hx
    obtain ⟨u30,hx⟩ := hx
    obtain ⟨u31,hx⟩ := hx
    obtain ⟨u32,hx⟩ := hx
    obtain ⟨u33,hx⟩ := hx
    obtain ⟨u34,hx⟩ := hx
    obtain ⟨u35,hx⟩ := hx
    obtain ⟨u36,hx⟩ := hx
    obtain ⟨u37,hx⟩ := hx
    obtain ⟨u38,hx⟩ := hx
    obtain ⟨u39,hx⟩ := hx
    obtain ⟨u40,hx⟩ := hx
    obtain ⟨u41,hx⟩ := hx
    obtain ⟨u42,hx⟩ := hx
    obtain ⟨u43,hx⟩ := hx
    obtain ⟨u44,hx⟩ := hx
    obtain ⟨u45,hx⟩ := hx
    obtain ⟨u46,hx⟩ := hx
    obtain ⟨u47,hx⟩ := hx
    obtain ⟨u48,hx⟩ := hx
    obtain ⟨u49,hx⟩ := hx
    obtain ⟨u50,hx⟩ := hx
    obtain ⟨u51,hx⟩ := hx
    obtain ⟨u52,hx⟩ := hx
    obtain ⟨u53,hx⟩ := hx
    obtain ⟨u54,hx⟩ := hx
    obtain ⟨u55,hx⟩ := hx
    obtain ⟨u56,hx⟩ := hx
    obtain ⟨u57,hx⟩ := hx
    obtain ⟨u58,hx⟩ := hx
    obtain ⟨u59,hx⟩ := hx
    obtain ⟨u60,hx⟩ := hx
    obtain ⟨u61,hx⟩ := hx
    obtain ⟨u62,hx⟩ := hx
    obtain ⟨u63,hx⟩ := hx
    obtain ⟨X,line,off,n,J,sv,HP,HPOS,ha⟩ := hx
    subst ha
    clear HP1
    have hpl := HPOS.out.1.1
    have hsl := HPOS.out.1.2
    have ht1 : T.data.toList.length = T.size := rfl
    have hx1 : X.data.toList.length = X.size := rfl
    have hT := HT.out
    have HSL := hidMk hsl
    have HPL := hidMk (show line ≤ 901 by omega)
    obtain ⟨l1,l2,bq,hcu⟩ : ∃ (l1 l2 : ByteArray) (b : Bool),cut X.data.toList [10] = (l1.data.toList,l2.data.toList,b) := ⟨⟨(cut X.data.toList [10]).1.toArray⟩,⟨(cut X.data.toList [10]).2.1.toArray⟩,(cut X.data.toList [10]).2.2,rfl⟩
    have HCU := hidMk hcu
    have hl1 := cut_longer hcu
    have e1 : l1.data.toList.length = l1.size := rfl
    have e2 : l2.data.toList.length = l2.size := rfl
    have HMEA := hidMk (show bq = true → l2.size < X.size from fun hb => by subst hb; have := cut_shorter hcu; omega)
    have HLEA := hidMk (show bq = true → 1 ≤ line + 1 ∧ line + 1 + l2.data.toList.length ≤ T.data.toList.length + 1 from fun hb => by have := HMEA.out hb; omega)
    have HLS := hidMk (show l1.size ≤ X.size ∧ l2.size ≤ X.size by omega)
    have HWY := hidMk (show IntKind.i64.wrap ((line : Int) + 1) = (line : Int) + 1 from IntWalk.i64_in _ (by omega))
    rcases HPOS.out.2 with ⟨rfl,rfl,hli,hJ0,hX0⟩ | ⟨rfl,rfl,hli,hps⟩ | ⟨rfl,rfl,fuel,hfu,hps⟩ | ⟨rfl,hps⟩
    · have HX := hidMk (show X.size ≤ 900 by omega)
      have HLI := hidMk hli
      have HJ0 := hidMk hJ0
      have HPO := hidMk (show parseJ T.data.toList = parseJ X.data.toList by rw [hX0])
      clear hpl hsl ht1 hx1 hT hcu hl1 e1 e2 hX0 hJ0 hli
      have HC : Hid (cut X.data.toList [10] = (l1.data.toList,l2.data.toList,bq)) := HCU
      go_wp2_with fail
      refine (cut_any X (by have := HX.out; omega) 10 l1 l2 bq HC.out _ (HLW.out HP.out)).mono ?_
      rintro e w5 ⟨rfl,hb5⟩
      have HP5 := hidMk (HP.out.below hb5 (Nat.le_refl _))
      clear hb5 HP
      go_wp2_with fail
      refine (split_any l1 (by have := HX.out; have := HLS.out.1; omega) _ (HLW.out HP5.out)).mono ?_
      rintro e w6 ⟨l,m,hm,hbl,hz,hll,rfl,hss,hb6⟩
      have HM := hidMk hm
      have HL := hidMk hbl
      have HZ := hidMk hz
      have HLL := hidMk hll
      have HS6 := hidMk hss
      have HP6 := hidMk (HP5.out.below hb6 (Nat.le_refl _))
      have HRL6 := hidMk (HP6.out.rules HRB.out HRN.out)
      obtain ⟨wpb,hpb⟩ : ∃ x,x = w5.heap.size := ⟨_,rfl⟩
      rw [← hpb] at HS6
      rw [← hpb]
      clear hm hbl hz hll hss hb6 HP5 hpb
      go_wp2_with fail
      refine par60 HRL6.out ?_
      intro w7 h7
      intros
      have HP7 := hidMk (HP6.out.below h7 (Nat.le_refl _))
      have HRL7 := hidMk (HP7.out.rules HRB.out HRN.out)
      have HSS : Hid (Ss w7 w7.heap.size wpb 0 l) := hidMk ⟨Nat.lt_of_lt_of_le HS6.out.1 h7.size,fun k x hx => (h7.cell (p := ⟨wpb,0 + k,none⟩) HS6.out.1).trans (HS6.out.2 k x hx)⟩
      clear h7 HP6 HS6 HRL6
      cases bq with
      | false =>
        obtain ⟨a_,c_,hsv,hcl,hrg,hqo⟩ := HP7.out.slice
        subst hsv
        have HBK := hidMk HP7.out.bk
        have HFIN := hidMk (PRQ.of HP7.out hcl HB1.out HG.out hrg hqo (show parseJ T.data.toList = (J,line) from (by rw [HJ0.out,HLI.out]; exact HPO.out.trans (parse0_no HC.out))))
        clear hcl hrg hqo
        go_wp2_with (first | (refine wpList_load_row rfl 30 _ rfl g rfl _ (jobC J (.slice a_ J.sh.length c_)) _ _ HBK.out Tryz.underlying30 rfl szJob ?_) | (refine wpList_store_row rfl 30 _ _ rfl g (jobC J (.slice a_ J.sh.length c_)) rfl rfl 30 (jobC J (.slice a_ J.sh.length c_)) HBK.out szJob rfl (oneJob _ _ _ _) ?_))
        show bodyPost _ _ _ _ _ _
        refine bodyPost_ret (results_row_tmp Tryz.results35 _ _ _ _ _ (.int .i64 line) rfl rfl (HBK.out.row (jobC J (.slice a_ J.sh.length c_))) Tryz.underlying30 szJob) rfl ?_
        exact HFIN.out
      | true =>
        have HME := hidMk (HMEA.out rfl)
        have HLE := hidMk (HLEA.out rfl)
        have q0 := HRL7.out.at_ 0 (.string (bt tongueW)) rfl ; have q1 := HRL7.out.at_ 1 (.bool false) rfl ; have q2 := HRL7.out.at_ 2 (.int .i64 3) rfl ; have q3 := HRL7.out.at_ 3 (.int .i64 0) rfl ; have q4 := HRL7.out.at_ 4 (.func (.func 77) #[] #[]) rfl
        go_wp2_with fail
        refine (apply_any (bt tongueW) false 3 0 m 77 g wpb 0 m l w7 (HLW.out HP7.out) HSS.out HM.out (Nat.le_refl _) ⟨by decide,by decide,HLL.out⟩ (by decide) HZ.out (TK g w1.heap.size w1 J f1) enter77 ?_).mono ?_
        · intro ss ns ra rc nv wz hbz hs1 hn1 hq1 hr1 ho1
          exact tk1 (HP7.out.below hbz (Nat.le_refl _)) (Nat.lt_succ_of_lt HP7.out.bk.lt) hs1 hn1 hq1 hr1 ho1
        rintro e w8 hA
        have HA := hidMk hA
        have HBL := hidMk (show ap tongueW 3 0 (bytes l) = ap tongueW 3 0 (split l1.data.toList [32]) from by rw [HL.out])
        have HWB := hidMk (show (bt tongueW).data.toList = tongueW from rfl)
        clear hA q0 q1 q2 q3 q4
        cases hap : ap tongueW 3 0 (split l1.data.toList [32]) with
        | none =>
          have HAP := hidMk hap
          clear hap
          obtain ⟨he8,hb8⟩ := HA.out.1 (by rw [HWB.out,HBL.out]; exact HAP.out)
          subst he8
          have HP8 := hidMk (HP7.out.below hb8 (Nat.le_refl _))
          clear hb8 HA
          obtain ⟨a_,c_,hsv,hcl,hrg,hqo⟩ := HP8.out.slice
          subst hsv
          have HBK := hidMk HP8.out.bk
          have HFIN := hidMk (PRQ.of HP8.out hcl HB1.out HG.out hrg hqo (show parseJ T.data.toList = (J,line) from (by rw [HJ0.out,HLI.out]; exact HPO.out.trans (parse0_bad HC.out HAP.out))))
          clear hcl hrg hqo
          go_wp2_with (first | (refine wpList_load_row rfl 30 _ rfl g rfl _ (jobC J (.slice a_ J.sh.length c_)) _ _ HBK.out Tryz.underlying30 rfl szJob ?_) | (refine wpList_store_row rfl 30 _ _ rfl g (jobC J (.slice a_ J.sh.length c_)) rfl rfl 30 (jobC J (.slice a_ J.sh.length c_)) HBK.out szJob rfl (oneJob _ _ _ _) ?_))
          show bodyPost _ _ _ _ _ _
          refine bodyPost_ret (results_row_tmp Tryz.results35 _ _ _ _ _ (.int .i64 line) rfl rfl (HBK.out.row (jobC J (.slice a_ J.sh.length c_))) Tryz.underlying30 szJob) rfl ?_
          exact HFIN.out
        | some q =>
          obtain ⟨ss,ns⟩ := q
          have HAP := hidMk hap
          have hnu := ap_nums hap
          clear hap
          obtain ⟨he8,wz,hbz,v',hP8⟩ := HA.out.2 ss ns (by rw [HWB.out,HBL.out]; exact HAP.out)
          subst he8
          have HP8 := hidMk hP8
          have HNU := hidMk hnu
          have HRL8 := hidMk (hP8.rules HRB.out HRN.out)
          clear hP8 hbz HA hnu
          have q1 := HRL8.out.at_ 1 (.bool false) rfl
          have wy := HWY.out
          go_wp2_with fail
          refine ⟨⟨_,_,_,_,_,_,_,_,_,_,_,_,_,_,_,_,_,_,_,_,_,_,_,_,_,_,_,_,_,_,_,_,_,_,_,_,_,_,_,_,_,_,_,_,_,_,_,_,_,_,_,_,_,_,_,_,_,_,_,_,l2,line + 1,_,_,_,v',HP8,hidMk ?_,by rw [show ((line + 1 : Nat) : Int) = (line : Int) + 1 by push_cast; rfl]⟩,HME.out⟩
          obtain ⟨p,t,r,rfl⟩ : ∃ p t r,ss = [p,t,r] := by
            have := HNU.out.1
            match ss,this with
            | [p,t,r],_ => exact ⟨p,t,r,rfl⟩
          exact ⟨⟨HLE.out,Nat.le_succ_of_le HSL.out⟩,.inr (.inl ⟨rfl,rfl,by rw [HLI.out],by obtain rfl := HJ0.out; exact HPO.out.trans (parse0_go HC.out HAP.out)⟩)⟩

    · have HX := hidMk (show X.size ≤ 900 by omega)
      have HLI := hidMk hli
      have HPO := hidMk hps
      clear hpl hsl ht1 hx1 hT hcu hl1 e1 e2 hps hli
      have HC : Hid (cut X.data.toList [10] = (l1.data.toList,l2.data.toList,bq)) := HCU
      go_wp2_with fail
      refine (cut_any X (by have := HX.out; omega) 10 l1 l2 bq HC.out _ (HLW.out HP.out)).mono ?_
      rintro e w5 ⟨rfl,hb5⟩
      have HP5 := hidMk (HP.out.below hb5 (Nat.le_refl _))
      clear hb5 HP
      go_wp2_with fail
      refine (split_any l1 (by have := HX.out; have := HLS.out.1; omega) _ (HLW.out HP5.out)).mono ?_
      rintro e w6 ⟨l,m,hm,hbl,hz,hll,rfl,hss,hb6⟩
      have HM := hidMk hm
      have HL := hidMk hbl
      have HZ := hidMk hz
      have HLL := hidMk hll
      have HS6 := hidMk hss
      have HP6 := hidMk (HP5.out.below hb6 (Nat.le_refl _))
      have HRL6 := hidMk (HP6.out.rules HRB.out HRN.out)
      obtain ⟨wpb,hpb⟩ : ∃ x,x = w5.heap.size := ⟨_,rfl⟩
      rw [← hpb] at HS6
      rw [← hpb]
      clear hm hbl hz hll hss hb6 HP5 hpb
      go_wp2_with fail
      refine par61 HRL6.out ?_
      intro w7 h7
      intros
      have HP7 := hidMk (HP6.out.below h7 (Nat.le_refl _))
      have HRL7 := hidMk (HP7.out.rules HRB.out HRN.out)
      have HSS : Hid (Ss w7 w7.heap.size wpb 0 l) := hidMk ⟨Nat.lt_of_lt_of_le HS6.out.1 h7.size,fun k x hx => (h7.cell (p := ⟨wpb,0 + k,none⟩) HS6.out.1).trans (HS6.out.2 k x hx)⟩
      clear h7 HP6 HS6 HRL6
      cases bq with
      | false =>
        obtain ⟨a_,c_,hsv,hcl,hrg,hqo⟩ := HP7.out.slice
        subst hsv
        have HBK := hidMk HP7.out.bk
        have HFIN := hidMk (PRQ.of HP7.out hcl HB1.out HG.out hrg hqo (show parseJ T.data.toList = (J,line) from (by rw [HLI.out]; exact HPO.out.trans (parse1_no HC.out))))
        clear hcl hrg hqo
        go_wp2_with (first | (refine wpList_load_row rfl 30 _ rfl g rfl _ (jobC J (.slice a_ J.sh.length c_)) _ _ HBK.out Tryz.underlying30 rfl szJob ?_) | (refine wpList_store_row rfl 30 _ _ rfl g (jobC J (.slice a_ J.sh.length c_)) rfl rfl 30 (jobC J (.slice a_ J.sh.length c_)) HBK.out szJob rfl (oneJob _ _ _ _) ?_))
        show bodyPost _ _ _ _ _ _
        refine bodyPost_ret (results_row_tmp Tryz.results35 _ _ _ _ _ (.int .i64 line) rfl rfl (HBK.out.row (jobC J (.slice a_ J.sh.length c_))) Tryz.underlying30 szJob) rfl ?_
        exact HFIN.out
      | true =>
        have HME := hidMk (HMEA.out rfl)
        have HLE := hidMk (HLEA.out rfl)
        have q0 := HRL7.out.at_ 5 (.string (bt fileW)) rfl ; have q1 := HRL7.out.at_ 6 (.bool false) rfl ; have q2 := HRL7.out.at_ 7 (.int .i64 4) rfl ; have q3 := HRL7.out.at_ 8 (.int .i64 1) rfl ; have q4 := HRL7.out.at_ 9 (.func (.func 78) #[] #[]) rfl
        go_wp2_with fail
        refine (apply_any (bt fileW) false 4 1 m 78 g wpb 0 m l w7 (HLW.out HP7.out) HSS.out HM.out (Nat.le_refl _) ⟨by decide,by decide,HLL.out⟩ (by decide) HZ.out (TK g w1.heap.size w1 J f2) enter78 ?_).mono ?_
        · intro ss ns ra rc nv wz hbz hs1 hn1 hq1 hr1 ho1
          exact tk2 (HP7.out.below hbz (Nat.le_refl _)) (Nat.lt_succ_of_lt HP7.out.bk.lt) hs1 hn1 hq1 hr1 ho1
        rintro e w8 hA
        have HA := hidMk hA
        have HBL := hidMk (show ap fileW 4 1 (bytes l) = ap fileW 4 1 (split l1.data.toList [32]) from by rw [HL.out])
        have HWB := hidMk (show (bt fileW).data.toList = fileW from rfl)
        clear hA q0 q1 q2 q3 q4
        cases hap : ap fileW 4 1 (split l1.data.toList [32]) with
        | none =>
          have HAP := hidMk hap
          clear hap
          obtain ⟨he8,hb8⟩ := HA.out.1 (by rw [HWB.out,HBL.out]; exact HAP.out)
          subst he8
          have HP8 := hidMk (HP7.out.below hb8 (Nat.le_refl _))
          clear hb8 HA
          obtain ⟨a_,c_,hsv,hcl,hrg,hqo⟩ := HP8.out.slice
          subst hsv
          have HBK := hidMk HP8.out.bk
          have HFIN := hidMk (PRQ.of HP8.out hcl HB1.out HG.out hrg hqo (show parseJ T.data.toList = (J,line) from (by rw [HLI.out]; exact HPO.out.trans (parse1_bad HC.out HAP.out))))
          clear hcl hrg hqo
          go_wp2_with (first | (refine wpList_load_row rfl 30 _ rfl g rfl _ (jobC J (.slice a_ J.sh.length c_)) _ _ HBK.out Tryz.underlying30 rfl szJob ?_) | (refine wpList_store_row rfl 30 _ _ rfl g (jobC J (.slice a_ J.sh.length c_)) rfl rfl 30 (jobC J (.slice a_ J.sh.length c_)) HBK.out szJob rfl (oneJob _ _ _ _) ?_))
          show bodyPost _ _ _ _ _ _
          refine bodyPost_ret (results_row_tmp Tryz.results35 _ _ _ _ _ (.int .i64 line) rfl rfl (HBK.out.row (jobC J (.slice a_ J.sh.length c_))) Tryz.underlying30 szJob) rfl ?_
          exact HFIN.out
        | some q =>
          obtain ⟨ss,ns⟩ := q
          have HAP := hidMk hap
          have hnu := ap_nums hap
          clear hap
          obtain ⟨he8,wz,hbz,v',hP8⟩ := HA.out.2 ss ns (by rw [HWB.out,HBL.out]; exact HAP.out)
          subst he8
          have HP8 := hidMk hP8
          have HNU := hidMk hnu
          have HRL8 := hidMk (hP8.rules HRB.out HRN.out)
          clear hP8 hbz HA hnu
          have q1 := HRL8.out.at_ 6 (.bool false) rfl
          have wy := HWY.out
          go_wp2_with fail
          refine ⟨⟨_,_,_,_,_,_,_,_,_,_,_,_,_,_,_,_,_,_,_,_,_,_,_,_,_,_,_,_,_,_,_,_,_,_,_,_,_,_,_,_,_,_,_,_,_,_,_,_,_,_,_,_,_,_,_,_,_,_,_,_,l2,line + 1,_,_,_,v',HP8,hidMk ?_,by rw [show ((line + 1 : Nat) : Int) = (line : Int) + 1 by push_cast; rfl]⟩,HME.out⟩
          obtain ⟨u,d,x,y,rfl⟩ : ∃ u d x y,ss = [u,d,x,y] := by
            have := HNU.out.1
            match ss,this with
            | [u,d,x,y],_ => exact ⟨u,d,x,y,rfl⟩
          obtain ⟨le,rfl⟩ : ∃ le,ns = [le] := by
            have := HNU.out.2
            match ns,this with
            | [le],_ => exact ⟨le,rfl⟩
          exact ⟨⟨HLE.out,Nat.le_succ_of_le HSL.out⟩,.inr (.inr (.inl ⟨rfl,rfl,l2.data.toList.length + 1,Nat.lt_succ_self _,by rw [HLI.out]; exact HPO.out.trans (parse1_go HC.out HAP.out)⟩))⟩

    · have HX := hidMk (show X.size ≤ 900 by omega)
      obtain ⟨fuel,rfl⟩ : ∃ q,fuel = q + 1 := ⟨fuel - 1,by omega⟩
      have HPO := hidMk hps
      have HFUA := hidMk (show bq = true → l2.data.toList.length < fuel from fun hb => by have := HMEA.out hb; omega)
      clear hpl hsl ht1 hx1 hT hcu hl1 e1 e2 hps hfu
      have HC : Hid (cut X.data.toList [10] = (l1.data.toList,l2.data.toList,bq)) := HCU
      go_wp2_with fail
      refine (cut_any X (by have := HX.out; omega) 10 l1 l2 bq HC.out _ (HLW.out HP.out)).mono ?_
      rintro e w5 ⟨rfl,hb5⟩
      have HP5 := hidMk (HP.out.below hb5 (Nat.le_refl _))
      clear hb5 HP
      go_wp2_with fail
      refine (split_any l1 (by have := HX.out; have := HLS.out.1; omega) _ (HLW.out HP5.out)).mono ?_
      rintro e w6 ⟨l,m,hm,hbl,hz,hll,rfl,hss,hb6⟩
      have HM := hidMk hm
      have HL := hidMk hbl
      have HZ := hidMk hz
      have HLL := hidMk hll
      have HS6 := hidMk hss
      have HP6 := hidMk (HP5.out.below hb6 (Nat.le_refl _))
      have HRL6 := hidMk (HP6.out.rules HRB.out HRN.out)
      obtain ⟨wpb,hpb⟩ : ∃ x,x = w5.heap.size := ⟨_,rfl⟩
      rw [← hpb] at HS6
      rw [← hpb]
      clear hm hbl hz hll hss hb6 HP5 hpb
      obtain ⟨x0,hx0⟩ : ∃ x,l[0]? = some x := ⟨l[0]'(by have := HM.out; omega),List.getElem?_eq_getElem _⟩
      obtain ⟨bw,hbw⟩ : ∃ b,(!(x0.toList == (bt shiftW).toList)) = b := ⟨_,rfl⟩
      have HQ := hidMk hbw
      have HHQ := hidMk (head_eq HL.out hx0 hbw)
      have HX0 := hidMk (HS6.out.2 0 x0 hx0)
      clear hx0 hbw
      go_wp2_with fail
      refine par62 HRL6.out HX0.out HQ.out ?_
      intro w7 h7
      intros
      have HP7 := hidMk (HP6.out.below h7 (Nat.le_refl _))
      have HRL7 := hidMk (HP7.out.rules HRB.out HRN.out)
      have HSS : Hid (Ss w7 w7.heap.size wpb 0 l) := hidMk ⟨Nat.lt_of_lt_of_le HS6.out.1 h7.size,fun k x hx => (h7.cell (p := ⟨wpb,0 + k,none⟩) HS6.out.1).trans (HS6.out.2 k x hx)⟩
      clear h7 HP6 HS6 HRL6
      clear HX0 HQ
      cases bw with
      | false =>
        have HHD := hidMk (HHQ.out.2 rfl)
        cases bq with
        | false =>
          obtain ⟨a_,c_,hsv,hcl,hrg,hqo⟩ := HP7.out.slice
          subst hsv
          have HBK := hidMk HP7.out.bk
          have HFIN := hidMk (PRQ.of HP7.out hcl HB1.out HG.out hrg hqo (show parseJ T.data.toList = (J,line) from HPO.out.trans (parse2_no HC.out)))
          clear hcl hrg hqo
          go_wp2_with (first | (refine wpList_load_row rfl 30 _ rfl g rfl _ (jobC J (.slice a_ J.sh.length c_)) _ _ HBK.out Tryz.underlying30 rfl szJob ?_) | (refine wpList_store_row rfl 30 _ _ rfl g (jobC J (.slice a_ J.sh.length c_)) rfl rfl 30 (jobC J (.slice a_ J.sh.length c_)) HBK.out szJob rfl (oneJob _ _ _ _) ?_))
          show bodyPost _ _ _ _ _ _
          refine bodyPost_ret (results_row_tmp Tryz.results35 _ _ _ _ _ (.int .i64 line) rfl rfl (HBK.out.row (jobC J (.slice a_ J.sh.length c_))) Tryz.underlying30 szJob) rfl ?_
          exact HFIN.out
        | true =>
          have HME := hidMk (HMEA.out rfl)
          have HLE := hidMk (HLEA.out rfl)
          have HFU := hidMk (HFUA.out rfl)
          have HSH := hidMk (Nat.le_trans HSL.out (by have := HPL.out; omega : line ≤ 1000000))
          have q0 := HRL7.out.at_ 10 (.string (bt shiftW)) rfl ; have q1 := HRL7.out.at_ 11 (.bool true) rfl ; have q2 := HRL7.out.at_ 12 (.int .i64 1) rfl ; have q3 := HRL7.out.at_ 13 (.int .i64 0) rfl ; have q4 := HRL7.out.at_ 14 (.func (.func 79) #[] #[]) rfl
          go_wp2_with fail
          refine (apply_any (bt shiftW) true 1 0 m 79 g wpb 0 m l w7 (HLW.out HP7.out) HSS.out HM.out (Nat.le_refl _) ⟨by decide,by decide,HLL.out⟩ (by decide) HZ.out (TK g w1.heap.size w1 J f3) enter79 ?_).mono ?_
          · intro ss ns ra rc nv wz hbz hs1 hn1 hq1 hr1 ho1
            exact tk3 (HP7.out.below hbz (Nat.le_refl _)) (Nat.lt_succ_of_lt HP7.out.bk.lt) hs1 hn1 HSH.out hr1
          rintro e w8 hA
          have HA := hidMk hA
          have HBL := hidMk (show ap shiftW 1 0 (bytes l) = ap shiftW 1 0 (split l1.data.toList [32]) from by rw [HL.out])
          have HWB := hidMk (show (bt shiftW).data.toList = shiftW from rfl)
          clear hA q0 q1 q2 q3 q4
          cases hap : ap shiftW 1 0 (split l1.data.toList [32]) with
          | none =>
            have HAP := hidMk hap
            clear hap
            obtain ⟨he8,hb8⟩ := HA.out.1 (by rw [HWB.out,HBL.out]; exact HAP.out)
            subst he8
            have HP8 := hidMk (HP7.out.below hb8 (Nat.le_refl _))
            clear hb8 HA
            obtain ⟨a_,c_,hsv,hcl,hrg,hqo⟩ := HP8.out.slice
            subst hsv
            have HBK := hidMk HP8.out.bk
            have HFIN := hidMk (PRQ.of HP8.out hcl HB1.out HG.out hrg hqo (show parseJ T.data.toList = (J,line) from HPO.out.trans (parse2_bad HC.out HHD.out HAP.out)))
            clear hcl hrg hqo
            go_wp2_with (first | (refine wpList_load_row rfl 30 _ rfl g rfl _ (jobC J (.slice a_ J.sh.length c_)) _ _ HBK.out Tryz.underlying30 rfl szJob ?_) | (refine wpList_store_row rfl 30 _ _ rfl g (jobC J (.slice a_ J.sh.length c_)) rfl rfl 30 (jobC J (.slice a_ J.sh.length c_)) HBK.out szJob rfl (oneJob _ _ _ _) ?_))
            show bodyPost _ _ _ _ _ _
            refine bodyPost_ret (results_row_tmp Tryz.results35 _ _ _ _ _ (.int .i64 line) rfl rfl (HBK.out.row (jobC J (.slice a_ J.sh.length c_))) Tryz.underlying30 szJob) rfl ?_
            exact HFIN.out
          | some q =>
            obtain ⟨ss,ns⟩ := q
            have HAP := hidMk hap
            have hnu := ap_nums hap
            clear hap
            obtain ⟨he8,wz,hbz,v',hP8⟩ := HA.out.2 ss ns (by rw [HWB.out,HBL.out]; exact HAP.out)
            subst he8
            have HP8 := hidMk hP8
            have HNU := hidMk hnu
            have HRL8 := hidMk (hP8.rules HRB.out HRN.out)
            clear hP8 hbz HA hnu
            have q1 := HRL8.out.at_ 11 (.bool true) rfl
            have wy := HWY.out
            go_wp2_with fail
            refine ⟨⟨_,_,_,_,_,_,_,_,_,_,_,_,_,_,_,_,_,_,_,_,_,_,_,_,_,_,_,_,_,_,_,_,_,_,_,_,_,_,_,_,_,_,_,_,_,_,_,_,_,_,_,_,_,_,_,_,_,_,_,_,l2,line + 1,_,_,_,v',HP8,hidMk ?_,by rw [show ((line + 1 : Nat) : Int) = (line : Int) + 1 by push_cast; rfl]⟩,HME.out⟩
            obtain ⟨s,rfl⟩ : ∃ s,ss = [s] := by
              have := HNU.out.1
              match ss,this with
              | [s],_ => exact ⟨s,rfl⟩
            refine ⟨⟨HLE.out,?_⟩,.inr (.inr (.inl ⟨rfl,rfl,fuel,HFU.out,HPO.out.trans (parse2_go HC.out HHD.out HAP.out)⟩))⟩
            have h1 := HSL.out
            show (J.sh ++ [s]).length ≤ _
            rw [List.length_append,List.length_singleton]
            omega
      | true =>
        have HHD := hidMk (show ¬ (split l1.data.toList [32]).head? = some shiftW from fun h => nomatch HHQ.out.1 h)
        cases bq with
        | false =>
          obtain ⟨a_,c_,hsv,hcl,hrg,hqo⟩ := HP7.out.slice
          subst hsv
          have HBK := hidMk HP7.out.bk
          have HFIN := hidMk (PRQ.of HP7.out hcl HB1.out HG.out hrg hqo (show parseJ T.data.toList = (J,line) from HPO.out.trans (parse2_no HC.out)))
          clear hcl hrg hqo
          go_wp2_with (first | (refine wpList_load_row rfl 30 _ rfl g rfl _ (jobC J (.slice a_ J.sh.length c_)) _ _ HBK.out Tryz.underlying30 rfl szJob ?_) | (refine wpList_store_row rfl 30 _ _ rfl g (jobC J (.slice a_ J.sh.length c_)) rfl rfl 30 (jobC J (.slice a_ J.sh.length c_)) HBK.out szJob rfl (oneJob _ _ _ _) ?_))
          show bodyPost _ _ _ _ _ _
          refine bodyPost_ret (results_row_tmp Tryz.results35 _ _ _ _ _ (.int .i64 line) rfl rfl (HBK.out.row (jobC J (.slice a_ J.sh.length c_))) Tryz.underlying30 szJob) rfl ?_
          exact HFIN.out
        | true =>
          have HME := hidMk (HMEA.out rfl)
          have HLE := hidMk (HLEA.out rfl)
          have q0 := HRL7.out.at_ 15 (.string (bt passW)) rfl ; have q1 := HRL7.out.at_ 16 (.bool false) rfl ; have q2 := HRL7.out.at_ 17 (.int .i64 0) rfl ; have q3 := HRL7.out.at_ 18 (.int .i64 2) rfl ; have q4 := HRL7.out.at_ 19 (.func (.func 80) #[] #[]) rfl
          go_wp2_with fail
          refine (apply_any (bt passW) false 0 2 m 80 g wpb 0 m l w7 (HLW.out HP7.out) HSS.out HM.out (Nat.le_refl _) ⟨by decide,by decide,HLL.out⟩ (by decide) HZ.out (TK g w1.heap.size w1 J f4) enter80 ?_).mono ?_
          · intro ss ns ra rc nv wz hbz hs1 hn1 hq1 hr1 ho1
            exact tk4 (HP7.out.below hbz (Nat.le_refl _)) (Nat.lt_succ_of_lt HP7.out.bk.lt) hs1 hn1 ho1
          rintro e w8 hA
          have HA := hidMk hA
          have HBL := hidMk (show ap passW 0 2 (bytes l) = ap passW 0 2 (split l1.data.toList [32]) from by rw [HL.out])
          have HWB := hidMk (show (bt passW).data.toList = passW from rfl)
          clear hA q0 q1 q2 q3 q4
          cases hap : ap passW 0 2 (split l1.data.toList [32]) with
          | none =>
            have HAP := hidMk hap
            clear hap
            obtain ⟨he8,hb8⟩ := HA.out.1 (by rw [HWB.out,HBL.out]; exact HAP.out)
            subst he8
            have HP8 := hidMk (HP7.out.below hb8 (Nat.le_refl _))
            clear hb8 HA
            obtain ⟨a_,c_,hsv,hcl,hrg,hqo⟩ := HP8.out.slice
            subst hsv
            have HBK := hidMk HP8.out.bk
            have HFIN := hidMk (PRQ.of HP8.out hcl HB1.out HG.out hrg hqo (show parseJ T.data.toList = (J,line) from HPO.out.trans (parse3_bad HC.out HHD.out HAP.out)))
            clear hcl hrg hqo
            go_wp2_with (first | (refine wpList_load_row rfl 30 _ rfl g rfl _ (jobC J (.slice a_ J.sh.length c_)) _ _ HBK.out Tryz.underlying30 rfl szJob ?_) | (refine wpList_store_row rfl 30 _ _ rfl g (jobC J (.slice a_ J.sh.length c_)) rfl rfl 30 (jobC J (.slice a_ J.sh.length c_)) HBK.out szJob rfl (oneJob _ _ _ _) ?_))
            show bodyPost _ _ _ _ _ _
            refine bodyPost_ret (results_row_tmp Tryz.results35 _ _ _ _ _ (.int .i64 line) rfl rfl (HBK.out.row (jobC J (.slice a_ J.sh.length c_))) Tryz.underlying30 szJob) rfl ?_
            exact HFIN.out
          | some q =>
            obtain ⟨ss,ns⟩ := q
            have HAP := hidMk hap
            have hnu := ap_nums hap
            clear hap
            obtain ⟨he8,wz,hbz,v',hP8⟩ := HA.out.2 ss ns (by rw [HWB.out,HBL.out]; exact HAP.out)
            subst he8
            have HP8 := hidMk hP8
            have HNU := hidMk hnu
            have HRL8 := hidMk (hP8.rules HRB.out HRN.out)
            clear hP8 hbz HA hnu
            have q1 := HRL8.out.at_ 16 (.bool false) rfl
            have wy := HWY.out
            go_wp2_with fail
            refine ⟨⟨_,_,_,_,_,_,_,_,_,_,_,_,_,_,_,_,_,_,_,_,_,_,_,_,_,_,_,_,_,_,_,_,_,_,_,_,_,_,_,_,_,_,_,_,_,_,_,_,_,_,_,_,_,_,_,_,_,_,_,_,l2,line + 1,_,_,_,v',HP8,hidMk ?_,by rw [show ((line + 1 : Nat) : Int) = (line : Int) + 1 by push_cast; rfl]⟩,HME.out⟩
            obtain ⟨i,j,rfl⟩ : ∃ i j,ns = [i,j] := by
              have := HNU.out.2
              match ns,this with
              | [i,j],_ => exact ⟨i,j,rfl⟩
            exact ⟨⟨HLE.out,Nat.le_succ_of_le HSL.out⟩,.inr (.inr (.inr ⟨rfl,HPO.out.trans (parse3_go HC.out HHD.out HAP.out)⟩))⟩

    · have HPO := hidMk hps
      clear hpl hsl ht1 hx1 hT hcu hl1 e1 e2 hps
      obtain ⟨a_,c_,hsv,hcl,hrg,hqo⟩ := HP.out.slice
      subst hsv
      have HBK := hidMk HP.out.bk
      have HFIN := hidMk (fun line (he : parseJ T.data.toList = (J,line)) => PRQ.of (line := line) HP.out hcl HB1.out HG.out hrg hqo he)
      clear hcl hrg hqo
      go_wp2_with (first | (refine wpList_load_row rfl 30 _ rfl g rfl _ (jobC J (.slice a_ J.sh.length c_)) _ _ HBK.out Tryz.underlying30 rfl szJob ?_) | (refine wpList_store_row rfl 30 _ _ rfl g (jobC J (.slice a_ J.sh.length c_)) rfl rfl 30 (jobC J (.slice a_ J.sh.length c_)) HBK.out szJob rfl (oneJob _ _ _ _) ?_))
      · rename_i hX
        refine bodyPost_ret (results_row_tmp Tryz.results35 _ _ _ _ _ (.int .i64 line) rfl rfl (HBK.out.row (jobC J (.slice a_ J.sh.length c_))) Tryz.underlying30 szJob) rfl ?_
        exact HFIN.out line (by rw [HPO.out,if_neg]; intro e; rw [ByteArray.toList_eq,e] at hX; exact absurd hX (by decide))
      · rename_i hX
        refine bodyPost_ret (results_row_tmp Tryz.results35 _ _ _ _ _ (.int .i64 0) rfl rfl (HBK.out.row (jobC J (.slice a_ J.sh.length c_))) Tryz.underlying30 szJob) rfl ?_
        exact HFIN.out 0 (by rw [HPO.out,if_pos]; rw [ByteArray.toList_eq] at hX; simpa using hX)
end Go.Proofs.YtljefjngmembkaaGreatDoor
/- Read. -/
namespace Go.Proofs.YtljefjngmembkaaGreatDoor
set_option linter.all false
open Go.RowKit Go.Lib
/-- What Read says of a text. -/
def readJ (T : List UInt8) : Jb × Nat × Int :=
  if 300 < T.length then (zeroJb,0,10) else if 0 < (parseJ T).2 then (zeroJb,(parseJ T).2,2) else if (parseJ T).1.check ≠ 0 then (zeroJb,0,(parseJ T).1.check) else ((parseJ T).1,0,0)
def RDQ (T : List UInt8) (w : World) (e : Ending) (w' : World) : Prop := ∃ a c,e = .returned (.tuple #[.agg (jobC (readJ T).1 (.slice a (readJ T).1.sh.length c)),.int .i64 ((readJ T).2.1 : Nat),.int .i64 (readJ T).2.2]) ∧ (readJ T).1.sh.length ≤ c ∧ Rg w' w'.heap.size a (readJ T).1.sh ∧ Below w.heap.size w w'
theorem RDQ.zero {T : List UInt8} {w w' : World} {line : Nat} {e : Int} (h : readJ T = (zeroJb,line,e)) (hb : Below w.heap.size w w') : RDQ T w (.returned (.tuple #[.agg (jobC zeroJb (.slice none 0 0)),.int .i64 line,.int .i64 e])) w' :=
  ⟨none,0,by rw [h]; rfl,by rw [h]; exact Nat.le_refl _,by rw [h]; exact Rg.nil _ _ _,hb⟩
set_option maxHeartbeats 2000000 in
set_option maxRecDepth 1000000 in
theorem read_any (T : ByteArray) (w : World) (hl : LibW w) :
    Calls Tryz.prog 11 #[.string T] w (RDQ T.data.toList w) := by
  have HL := hidMk hl
  have ba : Bk (w.alloc (.cells (jobC zeroJb (.slice none 0 0)) 30)) w.heap.size 30 (jobC zeroJb (.slice none 0 0)) := Bk.new _ _ _
  have HBA := hidMk ba
  have HB0 := hidMk (below0 w (.cells (jobC zeroJb (.slice none 0 0)) 30))
  have ht : T.data.toList.length = T.size := rfl
  clear hl ba
  go_enter Tryz.func11,Tryz.ntmps11
  by_cases h3 : 300 < T.size
  · have h3' : (300 : Int) < (T.size : Int) := by omega
    have HR := hidMk (show readJ T.data.toList = (zeroJb,0,10) by unfold readJ; rw [if_pos (by omega)])
    clear ht
    go_wp2_with (first | (refine wpList_load_row rfl 30 _ rfl w.heap.size rfl _ (jobC zeroJb (.slice none 0 0)) _ _ HBA.out Tryz.underlying30 rfl szJob ?_) | (refine wpList_store_row rfl 30 _ _ rfl w.heap.size (jobC zeroJb (.slice none 0 0)) rfl rfl 30 (jobC zeroJb (.slice none 0 0)) HBA.out szJob rfl (oneJob _ _ _ _) ?_))
    refine bodyPost_ret (results_row_two Tryz.results11 _ _ _ _ _ (.int .i64 0) (.int .i64 10) rfl rfl rfl (HBA.out.row (jobC zeroJb (.slice none 0 0))) Tryz.underlying30 szJob) rfl ?_
    exact RDQ.zero HR.out (below_setRow HB0.out (Nat.le_refl _) _)
  · have h3' : ¬ (300 : Int) < (T.size : Int) := by omega
    have HR := hidMk (show readJ T.data.toList = if 0 < (parseJ T.data.toList).2 then (zeroJb,(parseJ T.data.toList).2,2) else if (parseJ T.data.toList).1.check ≠ 0 then (zeroJb,0,(parseJ T.data.toList).1.check) else ((parseJ T.data.toList).1,0,0) by unfold readJ; rw [if_neg (by omega)])
    clear ht
    go_wp2_with fail
    refine (parse_any T (by omega) _ (HL.out.up HB0.out)).mono ?_
    rintro e w1 ⟨a,c,rfl,hc,hlow,hr,hb1⟩
    obtain ⟨J,hJ⟩ : ∃ x,x = (parseJ T.data.toList).1 := ⟨_,rfl⟩
    obtain ⟨line,hline⟩ : ∃ x,x = (parseJ T.data.toList).2 := ⟨_,rfl⟩
    rw [← hJ,← hline] at HR
    rw [← hJ,← hline]
    rw [← hJ] at hr hc
    obtain ⟨n,hn⟩ : ∃ x,x = J.sh.length := ⟨_,rfl⟩
    rw [← hn] at hc ⊢
    have HN := hidMk hn
    have HCC := hidMk hc
    have HNE := hidMk (show ∀ q o,a = some ⟨q,o,none⟩ → q ≠ w.heap.size from fun q o e => by have := hlow q o e; have := HBA.out.lt; omega)
    have HB1 := hidMk (HB0.out.trans (hb1.mono HB0.out.size))
    have HW1 := hidMk (HBA.out.below hb1 HBA.out.lt)
    have HW2 := hidMk (HW1.out.row (jobC J (.slice a n c)))
    have HB2 := hidMk (below_setRow HB1.out (Nat.le_refl _) (jobC J (.slice a n c)))
    have HRG : Hid (Rg (w1.setRow w.heap.size (jobC J (.slice a n c))) (w1.setRow w.heap.size (jobC J (.slice a n c))).heap.size a J.sh) := hidMk (fun k x hx => by
      obtain ⟨q,o,e,hq,c0,c1⟩ := hr k x hx
      have hl := hlow q o e
      have hl2 := HBA.out.lt
      have hk := setRow_other w1 w.heap.size q (jobC J (.slice a n c)) (by omega)
      exact ⟨q,o,e,Nat.lt_of_lt_of_le hq (below_setRow (Below.refl 0 w1) (Nat.zero_le _) (jobC J (.slice a n c))).size,(World.cell?_of_block hk).trans c0,(World.cell?_of_block hk).trans c1⟩)
    clear hJ hline hr hc hb1 h3 hlow hn
    by_cases hl : 0 < line
    · have hl' : (0 : Int) < (line : Int) := by omega
      have HRE := hidMk (HR.out.trans (if_pos hl))
      clear hl
      go_wp2_with (first | (refine wpList_store_row rfl 30 _ _ rfl w.heap.size (jobC J (.slice a n c)) rfl rfl 30 (jobC zeroJb (.slice none 0 0)) HW1.out szJob rfl (oneJob _ _ _ _) ?_) | (refine wpList_store_row rfl 30 _ _ rfl w.heap.size (jobC zeroJb (.slice none 0 0)) rfl rfl 30 (jobC J (.slice a n c)) HW2.out szJob rfl (oneJob _ _ _ _) ?_))
      refine bodyPost_ret (results_row_two Tryz.results11 _ _ _ _ _ (.int .i64 line) (.int .i64 2) rfl rfl rfl (HW2.out.row (jobC zeroJb (.slice none 0 0))) Tryz.underlying30 szJob) rfl ?_
      exact RDQ.zero HRE.out (below_setRow HB2.out (Nat.le_refl _) _)
    · have hl' : ¬ (0 : Int) < (line : Int) := by omega
      have HRE := hidMk (HR.out.trans (if_neg hl))
      clear hl
      go_wp2_with (first | (refine wpList_store_row rfl 30 _ _ rfl w.heap.size (jobC J (.slice a n c)) rfl rfl 30 (jobC zeroJb (.slice none 0 0)) HW1.out szJob rfl (oneJob _ _ _ _) ?_) | (refine wpList_load_row rfl 30 _ rfl w.heap.size rfl _ (jobC J (.slice a n c)) _ _ HW2.out Tryz.underlying30 rfl szJob ?_))
      refine (check_any J a n c _ HN.out (by have := HCC.out; omega) HRG.out).mono ?_
      rintro e w2 ⟨rfl,hb2⟩
      have HB3 := hidMk (HB2.out.trans (hb2.mono HB2.out.size))
      have HW3 := hidMk (HW2.out.below hb2 HW2.out.lt)
      have HRG3 := hidMk (HRG.out.up hb2)
      clear hb2
      by_cases hc : J.check = 0
      · have HRF := hidMk (HRE.out.trans (if_neg (fun h => h hc)))
        rw [hc]
        clear hc
        go_wp2_with (first | (refine wpList_store_row rfl 30 _ _ rfl w.heap.size (jobC J (.slice a n c)) rfl rfl 30 (jobC J (.slice a n c)) HW3.out szJob rfl (oneJob _ _ _ _) ?_) | (refine wpList_load_row rfl 30 _ rfl w.heap.size rfl _ (jobC J (.slice a n c)) _ _ HW3.out Tryz.underlying30 rfl szJob ?_))
        refine bodyPost_ret (results_row_two Tryz.results11 _ _ _ _ _ (.int .i64 0) (.int .i64 0) rfl rfl rfl (HW3.out.row (jobC J (.slice a n c))) Tryz.underlying30 szJob) rfl ?_
        refine ⟨a,c,by rw [HRF.out,HN.out]; rfl,by rw [HRF.out,← HN.out]; exact HCC.out.1,?_,below_setRow HB3.out (Nat.le_refl _) _⟩
        rw [HRF.out]
        intro k x hx
        obtain ⟨q,o,e,hq,c0,c1⟩ := HRG3.out k x hx
        have hne : q ≠ w.heap.size := HNE.out q o e
        have hk := setRow_other w2 w.heap.size q (jobC J (.slice a n c)) hne
        exact ⟨q,o,e,Nat.lt_of_lt_of_le hq (below_setRow (Below.refl 0 w2) (Nat.zero_le _) (jobC J (.slice a n c))).size,(World.cell?_of_block hk).trans c0,(World.cell?_of_block hk).trans c1⟩
      · have HRF := hidMk (HRE.out.trans (if_pos hc))
        have hc' : (J.check != 0) = true := by simpa using hc
        obtain ⟨ck,hck⟩ : ∃ x,x = J.check := ⟨_,rfl⟩
        rw [← hck] at hc' HRF ⊢
        clear hc hck
        go_wp2_with (first | (refine wpList_store_row rfl 30 _ _ rfl w.heap.size (jobC zeroJb (.slice none 0 0)) rfl rfl 30 (jobC J (.slice a n c)) HW3.out szJob rfl (oneJob _ _ _ _) ?_))
        refine bodyPost_ret (results_row_two Tryz.results11 _ _ _ _ _ (.int .i64 0) (.int .i64 ck) rfl rfl rfl (HW3.out.row (jobC zeroJb (.slice none 0 0))) Tryz.underlying30 szJob) rfl ?_
        exact RDQ.zero HRF.out (below_setRow HB3.out (Nat.le_refl _) _)
end Go.Proofs.YtljefjngmembkaaGreatDoor
/- JobOf: its beginning. -/
namespace Go.Proofs.YtljefjngmembkaaGreatDoor
set_option linter.all false
open Go.RowKit
set_option maxHeartbeats 1000000 in
set_option maxRecDepth 1000000 in
theorem jopart7 {w0 : World} {b B0 g6 g7 : Nat} {wide loose : Int} {w : World} {wi me p1 p2 t1 t2 r1 r2 u1 u2 d1 d2 x1 x2 y1 y2 : Int}  {u3 u4 u5 u8 u9 A0 A1 A2 A3 A4 A5 A6 A7 A8 A9 Aa Ab Ac Ad Ae Af Ag Ah Ai Aj Ak Al Am An Ao Ap Aq Ar As At Au Av Aw Ax Ay Az C0 C1 C2 C3 C4 C5 C6 C7 C8 C9 Ca Cb Cc Cd Ce Cf Cg Ch Ci Cj Ck Cl Cm Cn Co Cp Cq Cr Cs Ct Cu Cv Cw Cx Cy Cz D0 D1 : Value} (hwd : 0 ≤ wide ∧ wide ≤ 40) (hlo : 0 ≤ loose ∧ loose ≤ 40) (hwi : 1 ≤ wi ∧ wi ≤ 6) (hme : 0 ≤ me ∧ me ≤ 3) (hp : -60 ≤ p1 ∧ p1 ≤ p2 ∧ p2 ≤ 60) (ht : 18 ≤ t1 ∧ t1 ≤ t2 ∧ t2 ≤ 100) (hr : 18 ≤ r1 ∧ r1 ≤ r2 ∧ r2 ≤ 100) (hu : 0 ≤ u1 ∧ u1 ≤ u2 ∧ u2 ≤ 12) (hd : 0 ≤ d1 ∧ d1 ≤ d2 ∧ d2 ≤ 12) (hx : 0 ≤ x1 ∧ x1 ≤ x2 ∧ x2 ≤ 12) (hy : 0 ≤ y1 ∧ y1 ≤ y2 ∧ y2 ≤ 12) (hs : JS b B0 w0 g6 g7 (jobC ⟨p1,p2,t1,t2,r1,r2,u1,u2,d1,d2,x1,x2,y1,y2,0,wi,me,[]⟩ (.slice none 0 0)) w) (hB : B0 = w0.heap.size) : Code.wp Tryz.prog jorest7 (QJO b w0) ⟨#[(.pointer (some ⟨b,0,none⟩)),(.int .i64 wide),(.int .i64 loose),u3,u4,u5,(.pointer (some ⟨g6,0,none⟩)),(.pointer (some ⟨g7,0,none⟩)),u8,u9,A0,A1,A2,A3,A4,A5,A6,A7,A8,A9,Aa,Ab,Ac,Ad,Ae,Af,Ag,Ah,Ai,Aj,Ak,Al,Am,An,Ao,Ap,Aq,Ar,As,At,Au,Av,Aw,Ax,Ay,Az,C0,C1,C2,C3,C4,C5,C6,C7,C8,C9,Ca,Cb,Cc,Cd,Ce,Cf,Cg,Ch,Ci,Cj,Ck,Cl,Cm,Cn,Co,Cp,Cq,Cr,Cs,Ct,Cu,Cv,Cw,Cx,Cy,Cz,D0,D1],[]⟩ w := by
  rw [jorest7_eq]
  have HS := hidMk hs
  clear hs
  go_wp2_with fail
  refine (withinP b (10) 30 _ HS.out.pt (by omega)).mono ?_
  rintro e w_ ⟨le,rfl,qle,hk,hp⟩
  have HS' := hidMk (HS.out.pot hk hp)
  clear HS hk hp
  have HS := HS'
  clear HS'
  have z14 := HS.out.bk.at_ 14 _ rfl
  have f14 := HS.out.bk.free 14
  go_wp2_with fail
  have hsn : JS b B0 w0 g6 g7 (jobC ⟨p1,p2,t1,t2,r1,r2,u1,u2,d1,d2,x1,x2,y1,y2,le,wi,me,[]⟩ (.slice none 0 0)) _ := (HS.out.put 14 (.int .i64 le))
  exact jopart8 (wi := wi) (me := me) (p1 := p1) (p2 := p2) (t1 := t1) (t2 := t2) (r1 := r1) (r2 := r2) (u1 := u1) (u2 := u2) (d1 := d1) (d2 := d2) (x1 := x1) (x2 := x2) (y1 := y1) (y2 := y2) (le := le) hwd hlo hwi hme hp ht hr hu hd hx hy (by omega) hsn hB
set_option maxHeartbeats 1000000 in
set_option maxRecDepth 1000000 in
theorem jopart6 {w0 : World} {b B0 g6 g7 : Nat} {wide loose : Int} {w : World} {wi me p1 p2 t1 t2 r1 r2 u1 u2 d1 d2 : Int}  {u3 u4 u5 u8 u9 A0 A1 A2 A3 A4 A5 A6 A7 A8 A9 Aa Ab Ac Ad Ae Af Ag Ah Ai Aj Ak Al Am An Ao Ap Aq Ar As At Au Av Aw Ax Ay Az C0 C1 C2 C3 C4 C5 C6 C7 C8 C9 Ca Cb Cc Cd Ce Cf Cg Ch Ci Cj Ck Cl Cm Cn Co Cp Cq Cr Cs Ct Cu Cv Cw Cx Cy Cz D0 D1 : Value} (hwd : 0 ≤ wide ∧ wide ≤ 40) (hlo : 0 ≤ loose ∧ loose ≤ 40) (hwi : 1 ≤ wi ∧ wi ≤ 6) (hme : 0 ≤ me ∧ me ≤ 3) (hp : -60 ≤ p1 ∧ p1 ≤ p2 ∧ p2 ≤ 60) (ht : 18 ≤ t1 ∧ t1 ≤ t2 ∧ t2 ≤ 100) (hr : 18 ≤ r1 ∧ r1 ≤ r2 ∧ r2 ≤ 100) (hu : 0 ≤ u1 ∧ u1 ≤ u2 ∧ u2 ≤ 12) (hd : 0 ≤ d1 ∧ d1 ≤ d2 ∧ d2 ≤ 12) (hs : JS b B0 w0 g6 g7 (jobC ⟨p1,p2,t1,t2,r1,r2,u1,u2,d1,d2,0,0,0,0,0,wi,me,[]⟩ (.slice none 0 0)) w) (hB : B0 = w0.heap.size) : Code.wp Tryz.prog jorest6 (QJO b w0) ⟨#[(.pointer (some ⟨b,0,none⟩)),(.int .i64 wide),(.int .i64 loose),u3,u4,u5,(.pointer (some ⟨g6,0,none⟩)),(.pointer (some ⟨g7,0,none⟩)),u8,u9,A0,A1,A2,A3,A4,A5,A6,A7,A8,A9,Aa,Ab,Ac,Ad,Ae,Af,Ag,Ah,Ai,Aj,Ak,Al,Am,An,Ao,Ap,Aq,Ar,As,At,Au,Av,Aw,Ax,Ay,Az,C0,C1,C2,C3,C4,C5,C6,C7,C8,C9,Ca,Cb,Cc,Cd,Ce,Cf,Cg,Ch,Ci,Cj,Ck,Cl,Cm,Cn,Co,Cp,Cq,Cr,Cs,Ct,Cu,Cv,Cw,Cx,Cy,Cz,D0,D1],[]⟩ w := by
  rw [jorest6_eq]
  have HS := hidMk hs
  clear hs
  go_wp2_with fail
  refine (uptoP b 4 _ HS.out.pt (by omega)).mono ?_
  rintro e w_ ⟨a1,rfl,qa1,hk,hp⟩
  have HS' := hidMk (HS.out.pot hk hp)
  clear HS hk hp
  have HS := HS'
  clear HS'
  go_wp2_with fail
  refine (nearP b a1 (0) 12 1 _ HS.out.pt (by omega) (by omega)).mono ?_
  rintro e w_ ⟨x1,x2,rfl,qx1,hk,hp⟩
  have HS' := hidMk (HS.out.pot hk hp)
  clear HS hk hp
  have HS := HS'
  clear HS'
  go_wp2_with fail
  refine (uptoP b 4 _ HS.out.pt (by omega)).mono ?_
  rintro e w_ ⟨a2,rfl,qa2,hk,hp⟩
  have HS' := hidMk (HS.out.pot hk hp)
  clear HS hk hp
  have HS := HS'
  clear HS'
  go_wp2_with fail
  refine (nearP b a2 (0) 12 1 _ HS.out.pt (by omega) (by omega)).mono ?_
  rintro e w_ ⟨y1,y2,rfl,qy1,hk,hp⟩
  have HS' := hidMk (HS.out.pot hk hp)
  clear HS hk hp
  have HS := HS'
  clear HS'
  have z10 := HS.out.bk.at_ 10 _ rfl
  have f10 := HS.out.bk.free 10
  have z11 := HS.out.bk.at_ 11 _ rfl
  have f11 := HS.out.bk.free 11
  have z12 := HS.out.bk.at_ 12 _ rfl
  have f12 := HS.out.bk.free 12
  have z13 := HS.out.bk.at_ 13 _ rfl
  have f13 := HS.out.bk.free 13
  go_wp2_with fail
  have hsn : JS b B0 w0 g6 g7 (jobC ⟨p1,p2,t1,t2,r1,r2,u1,u2,d1,d2,x1,x2,y1,y2,0,wi,me,[]⟩ (.slice none 0 0)) _ := ((((HS.out.put 10 (.int .i64 x1)).put 11 (.int .i64 x2)).put 12 (.int .i64 y1)).put 13 (.int .i64 y2))
  exact jopart7 (wi := wi) (me := me) (p1 := p1) (p2 := p2) (t1 := t1) (t2 := t2) (r1 := r1) (r2 := r2) (u1 := u1) (u2 := u2) (d1 := d1) (d2 := d2) (x1 := x1) (x2 := x2) (y1 := y1) (y2 := y2) hwd hlo hwi hme hp ht hr hu hd (by omega) (by omega) hsn hB
set_option maxHeartbeats 1000000 in
set_option maxRecDepth 1000000 in
theorem jopart5 {w0 : World} {b B0 g6 g7 : Nat} {wide loose : Int} {w : World} {wi me p1 p2 t1 t2 r1 r2 : Int}  {u3 u4 u5 u8 u9 A0 A1 A2 A3 A4 A5 A6 A7 A8 A9 Aa Ab Ac Ad Ae Af Ag Ah Ai Aj Ak Al Am An Ao Ap Aq Ar As At Au Av Aw Ax Ay Az C0 C1 C2 C3 C4 C5 C6 C7 C8 C9 Ca Cb Cc Cd Ce Cf Cg Ch Ci Cj Ck Cl Cm Cn Co Cp Cq Cr Cs Ct Cu Cv Cw Cx Cy Cz D0 D1 : Value} (hwd : 0 ≤ wide ∧ wide ≤ 40) (hlo : 0 ≤ loose ∧ loose ≤ 40) (hwi : 1 ≤ wi ∧ wi ≤ 6) (hme : 0 ≤ me ∧ me ≤ 3) (hp : -60 ≤ p1 ∧ p1 ≤ p2 ∧ p2 ≤ 60) (ht : 18 ≤ t1 ∧ t1 ≤ t2 ∧ t2 ≤ 100) (hr : 18 ≤ r1 ∧ r1 ≤ r2 ∧ r2 ≤ 100) (hs : JS b B0 w0 g6 g7 (jobC ⟨p1,p2,t1,t2,r1,r2,0,0,0,0,0,0,0,0,0,wi,me,[]⟩ (.slice none 0 0)) w) (hB : B0 = w0.heap.size) : Code.wp Tryz.prog jorest5 (QJO b w0) ⟨#[(.pointer (some ⟨b,0,none⟩)),(.int .i64 wide),(.int .i64 loose),u3,u4,u5,(.pointer (some ⟨g6,0,none⟩)),(.pointer (some ⟨g7,0,none⟩)),u8,u9,A0,A1,A2,A3,A4,A5,A6,A7,A8,A9,Aa,Ab,Ac,Ad,Ae,Af,Ag,Ah,Ai,Aj,Ak,Al,Am,An,Ao,Ap,Aq,Ar,As,At,Au,Av,Aw,Ax,Ay,Az,C0,C1,C2,C3,C4,C5,C6,C7,C8,C9,Ca,Cb,Cc,Cd,Ce,Cf,Cg,Ch,Ci,Cj,Ck,Cl,Cm,Cn,Co,Cp,Cq,Cr,Cs,Ct,Cu,Cv,Cw,Cx,Cy,Cz,D0,D1],[]⟩ w := by
  rw [jorest5_eq]
  have HS := hidMk hs
  clear hs
  go_wp2_with fail
  refine (withinP b (1) 6 _ HS.out.pt (by omega)).mono ?_
  rintro e w_ ⟨a1,rfl,qa1,hk,hp⟩
  have HS' := hidMk (HS.out.pot hk hp)
  clear HS hk hp
  have HS := HS'
  clear HS'
  go_wp2_with fail
  refine (nearP b a1 (0) 12 loose _ HS.out.pt (by omega) (by omega)).mono ?_
  rintro e w_ ⟨u1,u2,rfl,qu1,hk,hp⟩
  have HS' := hidMk (HS.out.pot hk hp)
  clear HS hk hp
  have HS := HS'
  clear HS'
  go_wp2_with fail
  refine (withinP b (1) 6 _ HS.out.pt (by omega)).mono ?_
  rintro e w_ ⟨a2,rfl,qa2,hk,hp⟩
  have HS' := hidMk (HS.out.pot hk hp)
  clear HS hk hp
  have HS := HS'
  clear HS'
  go_wp2_with fail
  refine (nearP b a2 (0) 12 loose _ HS.out.pt (by omega) (by omega)).mono ?_
  rintro e w_ ⟨d1,d2,rfl,qd1,hk,hp⟩
  have HS' := hidMk (HS.out.pot hk hp)
  clear HS hk hp
  have HS := HS'
  clear HS'
  have z6 := HS.out.bk.at_ 6 _ rfl
  have f6 := HS.out.bk.free 6
  have z7 := HS.out.bk.at_ 7 _ rfl
  have f7 := HS.out.bk.free 7
  have z8 := HS.out.bk.at_ 8 _ rfl
  have f8 := HS.out.bk.free 8
  have z9 := HS.out.bk.at_ 9 _ rfl
  have f9 := HS.out.bk.free 9
  go_wp2_with fail
  have hsn : JS b B0 w0 g6 g7 (jobC ⟨p1,p2,t1,t2,r1,r2,u1,u2,d1,d2,0,0,0,0,0,wi,me,[]⟩ (.slice none 0 0)) _ := ((((HS.out.put 6 (.int .i64 u1)).put 7 (.int .i64 u2)).put 8 (.int .i64 d1)).put 9 (.int .i64 d2))
  exact jopart6 (wi := wi) (me := me) (p1 := p1) (p2 := p2) (t1 := t1) (t2 := t2) (r1 := r1) (r2 := r2) (u1 := u1) (u2 := u2) (d1 := d1) (d2 := d2) hwd hlo hwi hme hp ht hr (by omega) (by omega) hsn hB
set_option maxHeartbeats 1000000 in
set_option maxRecDepth 1000000 in
theorem jopart4 {w0 : World} {b B0 g6 g7 : Nat} {wide loose : Int} {w : World} {wi me p1 p2 : Int}  {u3 u4 u5 u8 u9 A0 A1 A2 A3 A4 A5 A6 A7 A8 A9 Aa Ab Ac Ad Ae Af Ag Ah Ai Aj Ak Al Am An Ao Ap Aq Ar As At Au Av Aw Ax Ay Az C0 C1 C2 C3 C4 C5 C6 C7 C8 C9 Ca Cb Cc Cd Ce Cf Cg Ch Ci Cj Ck Cl Cm Cn Co Cp Cq Cr Cs Ct Cu Cv Cw Cx Cy Cz D0 D1 : Value} (hwd : 0 ≤ wide ∧ wide ≤ 40) (hlo : 0 ≤ loose ∧ loose ≤ 40) (hwi : 1 ≤ wi ∧ wi ≤ 6) (hme : 0 ≤ me ∧ me ≤ 3) (hp : -60 ≤ p1 ∧ p1 ≤ p2 ∧ p2 ≤ 60) (hs : JS b B0 w0 g6 g7 (jobC ⟨p1,p2,0,0,0,0,0,0,0,0,0,0,0,0,0,wi,me,[]⟩ (.slice none 0 0)) w) (hB : B0 = w0.heap.size) : Code.wp Tryz.prog jorest4 (QJO b w0) ⟨#[(.pointer (some ⟨b,0,none⟩)),(.int .i64 wide),(.int .i64 loose),u3,u4,u5,(.pointer (some ⟨g6,0,none⟩)),(.pointer (some ⟨g7,0,none⟩)),u8,u9,A0,A1,A2,A3,A4,A5,A6,A7,A8,A9,Aa,Ab,Ac,Ad,Ae,Af,Ag,Ah,Ai,Aj,Ak,Al,Am,An,Ao,Ap,Aq,Ar,As,At,Au,Av,Aw,Ax,Ay,Az,C0,C1,C2,C3,C4,C5,C6,C7,C8,C9,Ca,Cb,Cc,Cd,Ce,Cf,Cg,Ch,Ci,Cj,Ck,Cl,Cm,Cn,Co,Cp,Cq,Cr,Cs,Ct,Cu,Cv,Cw,Cx,Cy,Cz,D0,D1],[]⟩ w := by
  rw [jorest4_eq]
  have HS := hidMk hs
  clear hs
  go_wp2_with fail
  refine (withinP b (20) 40 _ HS.out.pt (by omega)).mono ?_
  rintro e w_ ⟨a1,rfl,qa1,hk,hp⟩
  have HS' := hidMk (HS.out.pot hk hp)
  clear HS hk hp
  have HS := HS'
  clear HS'
  go_wp2_with fail
  refine (nearP b a1 (0) 100 2 _ HS.out.pt (by omega) (by omega)).mono ?_
  rintro e w_ ⟨t1,t2,rfl,qt1,hk,hp⟩
  have HS' := hidMk (HS.out.pot hk hp)
  clear HS hk hp
  have HS := HS'
  clear HS'
  go_wp2_with fail
  refine (withinP b (20) 40 _ HS.out.pt (by omega)).mono ?_
  rintro e w_ ⟨a2,rfl,qa2,hk,hp⟩
  have HS' := hidMk (HS.out.pot hk hp)
  clear HS hk hp
  have HS := HS'
  clear HS'
  go_wp2_with fail
  refine (nearP b a2 (0) 100 2 _ HS.out.pt (by omega) (by omega)).mono ?_
  rintro e w_ ⟨r1,r2,rfl,qr1,hk,hp⟩
  have HS' := hidMk (HS.out.pot hk hp)
  clear HS hk hp
  have HS := HS'
  clear HS'
  have z2 := HS.out.bk.at_ 2 _ rfl
  have f2 := HS.out.bk.free 2
  have z3 := HS.out.bk.at_ 3 _ rfl
  have f3 := HS.out.bk.free 3
  have z4 := HS.out.bk.at_ 4 _ rfl
  have f4 := HS.out.bk.free 4
  have z5 := HS.out.bk.at_ 5 _ rfl
  have f5 := HS.out.bk.free 5
  go_wp2_with fail
  have hsn : JS b B0 w0 g6 g7 (jobC ⟨p1,p2,t1,t2,r1,r2,0,0,0,0,0,0,0,0,0,wi,me,[]⟩ (.slice none 0 0)) _ := ((((HS.out.put 2 (.int .i64 t1)).put 3 (.int .i64 t2)).put 4 (.int .i64 r1)).put 5 (.int .i64 r2))
  exact jopart5 (wi := wi) (me := me) (p1 := p1) (p2 := p2) (t1 := t1) (t2 := t2) (r1 := r1) (r2 := r2) hwd hlo hwi hme hp (by omega) (by omega) hsn hB
set_option maxHeartbeats 1000000 in
set_option maxRecDepth 1000000 in
theorem jopart3 {w0 : World} {b B0 g6 g7 : Nat} {wide loose : Int} {w : World} {wi me : Int} {n : Int} {u3 u4 u5 u9 A0 A1 A2 A3 A4 A5 A6 A7 A8 A9 Aa Ab Ac Ad Ae Af Ag Ah Ai Aj Ak Al Am An Ao Ap Aq Ar As At Au Av Aw Ax Ay Az C0 C1 C2 C3 C4 C5 C6 C7 C8 C9 Ca Cb Cc Cd Ce Cf Cg Ch Ci Cj Ck Cl Cm Cn Co Cp Cq Cr Cs Ct Cu Cv Cw Cx Cy Cz D0 D1 : Value} (hwd : 0 ≤ wide ∧ wide ≤ 40) (hlo : 0 ≤ loose ∧ loose ≤ 40) (hwi : 1 ≤ wi ∧ wi ≤ 6) (hme : 0 ≤ me ∧ me ≤ 3) (hs : JS b B0 w0 g6 g7 (jobC ⟨0,0,0,0,0,0,0,0,0,0,0,0,0,0,0,wi,me,[]⟩ (.slice none 0 0)) w) (hn : -16 ≤ n ∧ n ≤ 16) (hB : B0 = w0.heap.size) : Code.wp Tryz.prog jorest3 (QJO b w0) ⟨#[(.pointer (some ⟨b,0,none⟩)),(.int .i64 wide),(.int .i64 loose),u3,u4,u5,(.pointer (some ⟨g6,0,none⟩)),(.pointer (some ⟨g7,0,none⟩)),(.int .i64 n),u9,A0,A1,A2,A3,A4,A5,A6,A7,A8,A9,Aa,Ab,Ac,Ad,Ae,Af,Ag,Ah,Ai,Aj,Ak,Al,Am,An,Ao,Ap,Aq,Ar,As,At,Au,Av,Aw,Ax,Ay,Az,C0,C1,C2,C3,C4,C5,C6,C7,C8,C9,Ca,Cb,Cc,Cd,Ce,Cf,Cg,Ch,Ci,Cj,Ck,Cl,Cm,Cn,Co,Cp,Cq,Cr,Cs,Ct,Cu,Cv,Cw,Cx,Cy,Cz,D0,D1],[]⟩ w := by
  rw [jorest3_eq]
  have HS := hidMk hs
  clear hs
  go_wp2_with fail
  refine (nearP b n (-60) 60 wide _ HS.out.pt (by omega) (by omega)).mono ?_
  rintro e w_ ⟨p1,p2,rfl,qp1,hk,hp⟩
  have HS' := hidMk (HS.out.pot hk hp)
  clear HS hk hp
  have HS := HS'
  clear HS'
  have z0 := HS.out.bk.at_ 0 _ rfl
  have f0 := HS.out.bk.free 0
  have z1 := HS.out.bk.at_ 1 _ rfl
  have f1 := HS.out.bk.free 1
  go_wp2_with fail
  have hsn : JS b B0 w0 g6 g7 (jobC ⟨p1,p2,0,0,0,0,0,0,0,0,0,0,0,0,0,wi,me,[]⟩ (.slice none 0 0)) _ := ((HS.out.put 0 (.int .i64 p1)).put 1 (.int .i64 p2))
  exact jopart4 (wi := wi) (me := me) (p1 := p1) (p2 := p2) hwd hlo hwi hme (by omega) hsn hB
end Go.Proofs.YtljefjngmembkaaGreatDoor
/- JobOf, whatever the width and the looseness. -/
namespace Go.Proofs.YtljefjngmembkaaGreatDoor
set_option linter.all false
open Go.RowKit
set_option maxHeartbeats 1000000 in
set_option maxRecDepth 1000000 in
/-- JobOf, whatever the width and the looseness. -/
theorem jobOf_hand (wide loose : Int) (hwd : 0 ≤ wide ∧ wide ≤ 40) (hlo : 0 ≤ loose ∧ loose ≤ 40) : JobOKq wide loose := by
  intro b w hp
  have hlt := hp.lt
  have k0 : PB b w.heap.size w (w.alloc (.cells (jobC ⟨0,0,0,0,0,0,0,0,0,0,0,0,0,0,0,0,0,[]⟩ (.slice none 0 0)) 30)) := (PB.refl _ _ _).alloc (Nat.le_refl _) _
  have p0 := hp.alloc (.cells (jobC ⟨0,0,0,0,0,0,0,0,0,0,0,0,0,0,0,0,0,[]⟩ (.slice none 0 0)) 30)
  have b0 : Bk (w.alloc (.cells (jobC ⟨0,0,0,0,0,0,0,0,0,0,0,0,0,0,0,0,0,[]⟩ (.slice none 0 0)) 30)) w.heap.size 30 (jobC ⟨0,0,0,0,0,0,0,0,0,0,0,0,0,0,0,0,0,[]⟩ (.slice none 0 0)) := Bk.new _ _ _
  have hgb : w.heap.size ≠ b := by omega
  have H0 := hidMk (And.intro k0 (And.intro p0 b0))
  clear k0 p0 b0 hp
  go_enter Tryz.func6,Tryz.ntmps6
  show Code.wp Tryz.prog jobody (QJO b w) _ _
  rw [jobody_eq]
  go_wp2_with fail
  rw [jorest1_eq]
  go_wp2_with fail
  refine (withinP b 1 6 _ H0.out.2.1 (by omega)).mono ?_
  rintro e w1 ⟨wi,rfl,hwi,hk1,hp1⟩
  have H1 := hidMk (show PB b w.heap.size w w1 ∧ Bk w1 w.heap.size 30 (jobC ⟨0,0,0,0,0,0,0,0,0,0,0,0,0,0,0,0,0,[]⟩ (.slice none 0 0)) ∧ Pt w1 b from ⟨H0.out.1.trans hk1 H0.out.1.size,H0.out.2.2.pb hk1 H0.out.2.2.lt hgb,hp1⟩)
  clear H0 hk1 hp1
  go_wp2_with fail
  refine (uptoP b 3 _ H1.out.2.2 (by omega)).mono ?_
  rintro e w2 ⟨m0,rfl,hm0,hk2,hp2⟩
  have H2 := hidMk (show PB b w.heap.size w w2 ∧ Bk w2 w.heap.size 30 (jobC ⟨0,0,0,0,0,0,0,0,0,0,0,0,0,0,0,0,0,[]⟩ (.slice none 0 0)) ∧ Pt w2 b from ⟨H1.out.1.trans hk2 H1.out.1.size,H1.out.2.1.pb hk2 H1.out.2.1.lt hgb,hp2⟩)
  clear H1 hk2 hp2
  go_wp2_with fail
  have hlb := H2.out.2.2.lt
  refine (of3P b w2.heap.size 0 1 m0 3 _ (H2.out.2.2.alloc _) (by omega) (Bk.new _ _ _)).mono ?_
  rintro e w3 ⟨me,rfl,hme,hk3,hp3⟩
  have hme' : 0 ≤ me ∧ me ≤ 3 := by rcases hme with h | h | h <;> omega
  have q2 := H2.out.1.alloc H2.out.1.size (.cells #[.int .i64 0,.int .i64 1,.int .i64 m0] 3)
  have H3 := hidMk (show PB b w.heap.size w w3 ∧ Bk w3 w.heap.size 30 (jobC ⟨0,0,0,0,0,0,0,0,0,0,0,0,0,0,0,0,0,[]⟩ (.slice none 0 0)) ∧ Pt w3 b from ⟨q2.trans hk3 q2.size,(H2.out.2.1.alloc _).pb hk3 (by have := H2.out.2.1.lt; simp; omega) hgb,hp3⟩)
  clear H2 hk3 hp3 hme q2
  go_wp2_with (first | (refine wpList_store_row rfl 30 _ _ rfl w3.heap.size (jobC ⟨0,0,0,0,0,0,0,0,0,0,0,0,0,0,0,wi,me,[]⟩ (.slice none 0 0)) rfl rfl _ _ (Bk.new _ _ _) szJob rfl (oneJob _ _ _ _) ?_; rw [World.setRow_alloc_new]))
  have hl3 := H3.out.2.1.lt
  have hlp := H3.out.2.2.lt
  have hjs : JS b w.heap.size w w.heap.size w3.heap.size (jobC ⟨0,0,0,0,0,0,0,0,0,0,0,0,0,0,0,wi,me,[]⟩ (.slice none 0 0)) (w3.alloc (.cells (jobC ⟨0,0,0,0,0,0,0,0,0,0,0,0,0,0,0,wi,me,[]⟩ (.slice none 0 0)) 30)) :=
    ⟨Bk.new _ _ _,⟨_,H3.out.2.1.alloc _,rfl⟩,H3.out.2.2.alloc _,H3.out.1.alloc H3.out.1.size _,hgb,by omega,by omega,Nat.le_refl _,by omega,by simp; omega⟩
  have HS := hidMk hjs
  clear hjs H3
  generalize hG7 : w3.heap.size = g7 at HS ⊢
  generalize hW3 : (w3.alloc (.cells (jobC ⟨0,0,0,0,0,0,0,0,0,0,0,0,0,0,0,wi,me,[]⟩ (.slice none 0 0)) 30)) = w4 at HS ⊢
  rw [jorest2_eq]
  go_wp2_with fail
  refine (withinP b (-16) 16 _ HS.out.pt (by omega)).mono ?_
  rintro e w5 ⟨n,rfl,hn,hk,hp⟩
  have HS' := hidMk (HS.out.pot hk hp)
  clear HS hk hp
  go_wp2_with fail
  exact jopart3 (wi := wi) (me := me) hwd hlo hwi hme' HS'.out hn rfl
end Go.Proofs.YtljefjngmembkaaGreatDoor
/- Regions that do not draw, one law a step. -/
namespace Go.Proofs.YtljefjngmembkaaGreatDoor
set_option linter.all false
open Go.RowKit
section
variable {P : Program} {ops : Array Oper} {Q : Exit → Act → World → Prop} {a : Act} {w : World} {i : Nat} {rest : List Nat} {o : Oper}
theorem wp_region_l {id : Nat} (l : List Nat) (hl : List.range ops.size = l) (h : wpOps P ops Q l a w) : (Code.region id ops false).wp P Q a w := wp_region (by rw [hl]; exact h)
theorem opsL_take {v : Value} (ho : ops[i]? = some o) (hw : Region.wanted o (yielded ops a.tmps) = true) (hv : (execOp a.eval o).run P w = .ok (.value v) w) (h : wpOps P ops Q rest (a.put o.dst v) w) : wpOps P ops Q (i :: rest) a w := by
  simp only [wpOps,ho,hw,if_true]
  exact .inl (by simp only [Oper.wp,hv,Oper.upon]; exact h)
theorem opsL_step (ho : ops[i]? = some o) (h : ∀ K' : Act → World → Prop,Shut (∀ a w,wpOps P ops Q rest a w → K' a w) → if Region.wanted o (yielded ops a.tmps) = true then Oper.wp P o a w K' Q else K' (a.put o.dst undef) w) : wpOps P ops Q (i :: rest) a w := by
  have := h (wpOps P ops Q rest) (fun _ _ h => h)
  simp only [wpOps,ho]
  split
  · rename_i hw
    rw [if_pos hw] at this
    exact .inl this
  · rename_i hw
    rw [if_neg hw] at this
    exact this
end
end Go.Proofs.YtljefjngmembkaaGreatDoor
