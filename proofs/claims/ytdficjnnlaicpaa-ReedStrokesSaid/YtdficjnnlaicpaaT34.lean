/- Part 34 of the proof: StkB. -/
import Derived.Test.YtdficjnnlaicpaaT33
import Derived.Test.YtdficjnnlaicpaaT13
/- The law ReedStrokes: what it goes through. -/
namespace Go.Proofs.Ytdficjnnlaicpaa
set_option linter.all false
open Go.RowKit
set_option maxHeartbeats 4000000 in
set_option maxRecDepth 1000000 in
theorem slpart6 {w0 w5 w : World} {g5 g12 b : Nat} {J M : Jb} {a : Option Addr} {n c : Nat} {ma : Option Addr} {mn mc : Nat} {sa : Option Addr} {sn sc : Nat} {sl : List Int} {atv byv : Int} {oa : Option Addr} {on oc : Nat} {ol : List Int} {g14 N vc : Nat} {u0 u4 u6 u7 u8 u9 u10 u15 u16 u17 u18 u19 u20 u21 u22 u23 u24 u25 u26 u27 u28 u29 u30 u31 u32 u33 u34 u35 u36 u37 u38 u39 u40 u41 u42 u43 u44 u45 u46 u47 u48 u49 u50 u51 u52 u53 u54 u55 u56 u57 u58 u59 u60 u61 u62 u63 u64 u65 u66 u67 u68 u69 u70 u71 u72 u73 u74 u75 u76 u77 u78 u79 u80 u81 u82 u83 u84 u85 u86 u87 u88 u89 u90 u91 u92 u93 u94 u95 u96 u97 u98 u99 u100 u101 u102 u103 u104 u105 u106 u107 u108 u109 u110 u111 u112 u113 u114 u115 u116 u117 u118 u119 u120 u121 u122 u123 u124 u125 u126 u127 u128 u129 u130 u131 u132 u133 u134 u135 u136 u137 u138 u139 u140 u141 u142 u143 u144 u145 u146 u147 u148 u149 u150 u151 u152 u153 u154 u155 u156 u157 u158 u159 u160 u161 u162 u163 u164 u165 u166 u167 u168 u169 u170 u171 u172 u173 u174 u175 u176 u177 u178 u179 u180 u181 u182 u183 u184 u185 u186 u187 u188 u189 u190 u191 u192 u193 u194 u195 u196 u197 u198 u199 u200 u201 u202 u203 u204 u205 u206 u207 u208 u209 u210 u211 u212 u213 u214 u215 u216 u217 u218 u219 u220 u221 u222 u223 u224 u225 u226 u227 u228 u229 u230 : Value} (htun : TunF) (har : -9223372036854775808 ≤ atv ∧ atv ≤ 9223372036854775807) (hs : S4 w0 w5 g5 g12 b J M a n c ma mn mc sa sn sl) (ho : Is w5 w5.heap.size oa ol) (hon : on = ol.length) (hon6 : on ≤ 6) (hB : Below w5.heap.size w5 w) (hI : IB w g14 N) (hg : w5.heap.size ≤ g14) (hN : N = on + 1) : Code.wp Try.prog slrest6 (QSL w0) ⟨#[u0, (.slice sa sn sc), (.int .i64 atv), (.int .i64 byv), u4, (.pointer (some ⟨g5, 0, none⟩)), u6, u7, u8, u9, u10, (.pointer (some ⟨b, 0, none⟩)), (.pointer (some ⟨g12, 0, none⟩)), (.slice oa on oc), (.slice (some ⟨g14, 0, none⟩) N vc), u15, u16, u17, u18, u19, u20, u21, u22, u23, u24, u25, u26, u27, u28, u29, u30, u31, u32, u33, u34, u35, u36, u37, u38, u39, u40, u41, u42, u43, u44, u45, u46, u47, u48, u49, u50, u51, u52, u53, u54, u55, u56, u57, u58, u59, u60, u61, u62, u63, u64, u65, u66, u67, u68, u69, u70, u71, u72, u73, u74, u75, u76, u77, u78, u79, u80, u81, u82, u83, u84, u85, u86, u87, u88, u89, u90, u91, u92, u93, u94, u95, u96, u97, u98, u99, u100, u101, u102, u103, u104, u105, u106, u107, u108, u109, u110, u111, u112, u113, u114, u115, u116, u117, u118, u119, u120, u121, u122, u123, u124, u125, u126, u127, u128, u129, u130, u131, u132, u133, u134, u135, u136, u137, u138, u139, u140, u141, u142, u143, u144, u145, u146, u147, u148, u149, u150, u151, u152, u153, u154, u155, u156, u157, u158, u159, u160, u161, u162, u163, u164, u165, u166, u167, u168, u169, u170, u171, u172, u173, u174, u175, u176, u177, u178, u179, u180, u181, u182, u183, u184, u185, u186, u187, u188, u189, u190, u191, u192, u193, u194, u195, u196, u197, u198, u199, u200, u201, u202, u203, u204, u205, u206, u207, u208, u209, u210, u211, u212, u213, u214, u215, u216, u217, u218, u219, u220, u221, u222, u223, u224, u225, u226, u227, u228, u229, u230], []⟩ w := by
  rw [slrest6_eq]
  have hN1 : 1 ≤ N := by omega
  have hN7 : N ≤ 7 := by omega
  have hN0 : 0 < N := by omega
  have hNi : (0 : Int) < (N : Int) := by omega
  clear hN
  have HT := hidMk htun
  have HS := hidMk hs
  have HO := hidMk ho
  have HON := hidMk hon
  clear hs htun ho hon
  refine wp_seq_k fun K0 hKK => ?_
  refine region_via (R := fun a_ e a' w' => e = .normal ∧ ∃ (v56 v57 v58 v59 v60 v61 v62 v63 v64 v65 v66 v67 v68 v69 v70 v71 v72 v73 : Value), a' = ((((((((((((((((((a_.put (some 56) v56).put (some 57) v57).put (some 58) v58).put (some 59) v59).put (some 60) v60).put (some 61) v61).put (some 62) v62).put (some 63) v63).put (some 64) v64).put (some 65) v65).put (some 66) v66).put (some 67) v67).put (some 68) v68).put (some 69) v69).put (some 70) v70).put (some 71) v71).put (some 72) v72).put (some 73) v73) ∧ Below w5.heap.size w5 w' ∧ IB w' g14 N) ?_ ?_
  rotate_left
  · rintro e a' w' ⟨rfl, v56, v57, v58, v59, v60, v61, v62, v63, v64, v65, v66, v67, v68, v69, v70, v71, v72, v73, rfl, hB', hI'⟩
    refine hKK _ _ ?_
    simp only [Act.put, aT, aZ, aS]
    obtain ⟨ll, hll, hL⟩ := hI'.is
    exact slpart7 HT.out (HS.out.next hB') (HO.out.up hB') HON.out hon6 hL hll.symm hN7
  have hS : Below w5.heap.size w5 w.drew ∧ IB w.drew g14 N := ⟨hB.drew, hI.drew⟩
  clear hB hI
  refine wp_region_held_drew (S := fun w' => Below w5.heap.size w5 w' ∧ IB w' g14 N) (by kernel_rfl) hS (fun hS0 => ?_)
  generalize hWd : w.drew = wd at hS0 hS ⊢
  clear hWd
  refine wpAnyH_take (i := 0) (oi := ⟨some 56, .move (.tmp 14), 31, "law.go:55", #[], none⟩) (v := ?_) rfl (by kernel_rfl) (by kernel_rfl) (by kernel_rfl) (fun _ _ _ h => by cases h.1) (.inl ⟨by rfl, ?_⟩) (by assumption) ?_
  rotate_left
  · (intro w' hSw; (try dsimp only at hSw); skip; go_simp <;> with_reducible rfl)
  (try simp only [Act.put, aT, aZ, aS])
  refine wpAnyH_take (i := 1) (oi := ⟨some 57, .move (.tmp 14), 31, "law.go:55", #[⟨17, .gcOnly .lateStores⟩], none⟩) (v := ?_) rfl (by kernel_rfl) (by kernel_rfl) (by kernel_rfl) (fun _ _ _ h => by cases h.1) (.inl ⟨by rfl, ?_⟩) (by assumption) ?_
  rotate_left
  · (intro w' hSw; (try dsimp only at hSw); skip; go_simp <;> with_reducible rfl)
  (try simp only [Act.put, aT, aZ, aS])
  refine wpAnyH_take (i := 2) (oi := ⟨some 58, .move (.tmp 2), 3, "law.go:55", #[], none⟩) (v := ?_) rfl (by kernel_rfl) (by kernel_rfl) (by kernel_rfl) (fun _ _ _ h => by cases h.1) (.inl ⟨by rfl, ?_⟩) (by assumption) ?_
  rotate_left
  · (intro w' hSw; (try dsimp only at hSw); skip; go_simp <;> with_reducible rfl)
  (try simp only [Act.put, aT, aZ, aS])
  refine wpAnyH_take (i := 3) (oi := ⟨some 59, .move (.tmp 14), 31, "law.go:55", #[], none⟩) (v := ?_) rfl (by kernel_rfl) (by kernel_rfl) (by kernel_rfl) (fun _ _ _ h => by cases h.1) (.inl ⟨by rfl, ?_⟩) (by assumption) ?_
  rotate_left
  · (intro w' hSw; (try dsimp only at hSw); skip; go_simp <;> with_reducible rfl)
  (try simp only [Act.put, aT, aZ, aS])
  refine wpAnyH_take (i := 4) (oi := ⟨some 60, .call { callee := .builtin .len, args := #[.tmp 59], argTypes := #[31] }, 3, "law.go:55", #[⟨3, .data⟩], none⟩) (v := ?_) rfl (by kernel_rfl) (by kernel_rfl) (by kernel_rfl) (fun _ _ _ h => by cases h.1) (.inl ⟨by rfl, ?_⟩) (by assumption) ?_
  rotate_left
  · (intro w' hSw; (try dsimp only at hSw); skip; go_simp <;> with_reducible rfl)
  (try simp only [Act.put, aT, aZ, aS])
  refine wpAnyH_take (i := 6) (oi := ⟨some 62, .move (.tmp 14), 31, "law.go:55", #[], none⟩) (v := ?_) rfl (by kernel_rfl) (by kernel_rfl) (by kernel_rfl) (fun _ _ _ h => by cases h.1) (.inl ⟨by rfl, ?_⟩) (by assumption) ?_
  rotate_left
  · (intro w' hSw; (try dsimp only at hSw); skip; go_simp <;> with_reducible rfl)
  (try simp only [Act.put, aT, aZ, aS])
  refine wpAnyH_take (i := 7) (oi := ⟨some 63, .move (.tmp 2), 3, "law.go:55", #[], none⟩) (v := ?_) rfl (by kernel_rfl) (by kernel_rfl) (by kernel_rfl) (fun _ _ _ h => by cases h.1) (.inl ⟨by rfl, ?_⟩) (by assumption) ?_
  rotate_left
  · (intro w' hSw; (try dsimp only at hSw); skip; go_simp <;> with_reducible rfl)
  (try simp only [Act.put, aT, aZ, aS])
  refine wpAnyH_take (i := 8) (oi := ⟨some 64, .move (.tmp 14), 31, "law.go:55", #[], none⟩) (v := ?_) rfl (by kernel_rfl) (by kernel_rfl) (by kernel_rfl) (fun _ _ _ h => by cases h.1) (.inl ⟨by rfl, ?_⟩) (by assumption) ?_
  rotate_left
  · (intro w' hSw; (try dsimp only at hSw); skip; go_simp <;> with_reducible rfl)
  (try simp only [Act.put, aT, aZ, aS])
  refine wpAnyH_take (i := 9) (oi := ⟨some 65, .call { callee := .builtin .len, args := #[.tmp 64], argTypes := #[31] }, 3, "law.go:55", #[⟨8, .data⟩], none⟩) (v := ?_) rfl (by kernel_rfl) (by kernel_rfl) (by kernel_rfl) (fun _ _ _ h => by cases h.1) (.inl ⟨by rfl, ?_⟩) (by assumption) ?_
  rotate_left
  · (intro w' hSw; (try dsimp only at hSw); skip; go_simp <;> with_reducible rfl)
  (try simp only [Act.put, aT, aZ, aS])
  refine wpAnyH_take (i := 13) (oi := ⟨some 69, .move (.tmp 14), 31, "law.go:55", #[], none⟩) (v := ?_) rfl (by kernel_rfl) (by kernel_rfl) (by kernel_rfl) (fun _ _ _ h => by cases h.1) (.inl ⟨by rfl, ?_⟩) (by assumption) ?_
  rotate_left
  · (intro w' hSw; (try dsimp only at hSw); skip; go_simp <;> with_reducible rfl)
  (try simp only [Act.put, aT, aZ, aS])
  refine wpAnyH_take (i := 14) (oi := ⟨some 70, .indexAddr 31 (.tmp 69) (.const (.int .i64 0)), 0, "law.go:55", #[⟨13, .data⟩], none⟩) (v := ?_) rfl (by kernel_rfl) (by kernel_rfl) (by kernel_rfl) (fun _ _ _ h => by cases h.1) (.inl ⟨by rfl, ?_⟩) (by assumption) ?_
  rotate_left
  · (intro w' hSw; (try dsimp only at hSw); skip; go_simp <;> with_reducible rfl)
  (try simp only [Act.put, aT, aZ, aS])
  refine wpAnyH_ready (rs := [5, 15]) (by kernel_rfl) (by simp) ?_
  refine AllReadyH.cons (o := ⟨some 61, .call { callee := .value (.func 20), args := #[.tmp 58, .tmp 60], argTypes := #[3, 3] }, 3, "law.go:55", #[⟨2, .data⟩, ⟨4, .data⟩], none⟩) rfl (fun K hK => ?_) ?_
  · go_simp
    go_at_call 20
    refine (turnN_any atv N har ⟨by omega, by omega⟩ _).mono ?_
    rintro e wTra ⟨ra, rfl, hra, hbT⟩
    have hS_ : Below w5.heap.size w5 wTra ∧ IB wTra g14 N := ⟨hS.1.trans (hbT.mono hS.1.size), hS.2.below hbT hS.2.lt⟩
    have ira : (ra : Int) < (N : Int) := by omega
    have kra : ra < N := hra
    have jra : (0 : Int) ≤ (ra : Int) := by omega
    clear hS hbT
    have hS := hS_
    clear hS_
    go_wp2_with fail
    refine hK.out _ _ hS (fun _ => ?_)
    clear hK K
    (try simp only [Act.put, aT, aZ, aS])
    refine wpAnyH_ready (rs := [10, 15]) (by kernel_rfl) (by simp) ?_
    refine AllReadyH.cons (o := ⟨some 66, .call { callee := .value (.func 20), args := #[.tmp 63, .tmp 65], argTypes := #[3, 3] }, 3, "law.go:55", #[⟨7, .data⟩, ⟨9, .data⟩, ⟨5, .chain⟩], none⟩) rfl (fun K hK => ?_) ?_
    · go_simp
      go_at_call 20
      refine (turnN_any atv N har ⟨by omega, by omega⟩ _).mono ?_
      rintro e wTrb ⟨rb, rfl, hrb, hbT⟩
      have hS_ : Below w5.heap.size w5 wTrb ∧ IB wTrb g14 N := ⟨hS.1.trans (hbT.mono hS.1.size), hS.2.below hbT hS.2.lt⟩
      have irb : (rb : Int) < (N : Int) := by omega
      have krb : rb < N := hrb
      have jrb : (0 : Int) ≤ (rb : Int) := by omega
      clear hS hbT
      have hS := hS_
      clear hS_
      go_wp2_with fail
      refine hK.out _ _ hS (fun _ => ?_)
      clear hK K
      (try simp only [Act.put, aT, aZ, aS])
      refine wpAnyH_take (i := 11) (oi := ⟨some 67, .indexAddr 31 (.tmp 62) (.tmp 66), 0, "law.go:55", #[⟨6, .data⟩, ⟨10, .data⟩], none⟩) (v := ?_) rfl (by kernel_rfl) (by kernel_rfl) (by kernel_rfl) (fun _ _ _ h => by cases h.1) (.inl ⟨by rfl, ?_⟩) (by assumption) ?_
      rotate_left
      · (intro w' hSw; (try dsimp only at hSw); skip; go_simp <;> with_reducible rfl)
      (try simp only [Act.put, aT, aZ, aS])
      refine wpAnyH_ready (rs := [12, 15]) (by kernel_rfl) (by simp) ?_
      refine AllReadyH.cons (o := ⟨some 68, .load 3 (.tmp 67), 3, "law.go:55", #[⟨11, .data⟩], none⟩) rfl (fun K hK => ?_) ?_
      · obtain ⟨xp, cp⟩ := hS.2.cell (k := rb) (by omega)
        go_simp
        refine hK.out _ _ hS (fun _ => ?_)
        clear cp
        clear hK K
        (try simp only [Act.put, aT, aZ, aS])
        refine wpAnyH_ready (rs := [15]) (by kernel_rfl) (by simp) ?_
        refine AllReadyH.cons (o := ⟨some 71, .load 3 (.tmp 70), 3, "law.go:55", #[⟨14, .data⟩], none⟩) rfl (fun K hK => ?_) ?_
        · obtain ⟨xq, cq⟩ := hS.2.cell (k := 0) (by omega)
          go_simp
          refine hK.out _ _ hS (fun _ => ?_)
          clear cq
          clear hK K
          (try simp only [Act.put, aT, aZ, aS])
          refine wpAnyH_take (i := 16) (oi := ⟨some 72, .indexAddr 31 (.tmp 56) (.const (.int .i64 0)), 0, "law.go:55", #[⟨0, .data⟩, ⟨0, .phase⟩, ⟨1, .textOnly .lateStores⟩, ⟨2, .textOnly .lateStores⟩, ⟨3, .textOnly .lateStores⟩, ⟨4, .textOnly .lateStoresUnsure⟩, ⟨5, .phase⟩, ⟨6, .phase⟩, ⟨7, .phase⟩, ⟨8, .phase⟩, ⟨9, .phase⟩, ⟨10, .phase⟩, ⟨11, .phase⟩, ⟨12, .phase⟩, ⟨13, .textOnly .lateStores⟩, ⟨14, .textOnly .lateStoresUnsure⟩, ⟨15, .phase⟩], none⟩) (v := ?_) rfl (by kernel_rfl) (by kernel_rfl) (by kernel_rfl) (fun _ _ _ h => by cases h.1) (.inl ⟨by rfl, ?_⟩) (by assumption) ?_
          rotate_left
          · (intro w' hSw; (try dsimp only at hSw); skip; go_simp <;> with_reducible rfl)
          (try simp only [Act.put, aT, aZ, aS])
          refine wpAnyH_ready (rs := [17]) (by kernel_rfl) (by simp) ?_
          refine AllReadyH.cons (o := ⟨none, .store 3 (.tmp 72) (.tmp 68), 0, "law.go:55", #[⟨16, .data⟩, ⟨12, .data⟩, ⟨10, .chain⟩, ⟨0, .phase⟩, ⟨1, .textOnly .lateStores⟩, ⟨2, .textOnly .lateStores⟩, ⟨3, .textOnly .lateStores⟩, ⟨4, .textOnly .lateStoresUnsure⟩, ⟨5, .phase⟩, ⟨6, .phase⟩, ⟨7, .phase⟩, ⟨8, .phase⟩, ⟨9, .phase⟩, ⟨10, .phase⟩, ⟨11, .phase⟩, ⟨12, .phase⟩, ⟨13, .textOnly .lateStores⟩, ⟨14, .textOnly .lateStoresUnsure⟩, ⟨15, .phase⟩], none⟩) rfl (fun K hK => ?_) ?_
          · obtain ⟨ys, zs⟩ := hS.2.cell (k := 0) (by omega)
            have fs := hS.2.free 0
            have hS_ : Below w5.heap.size w5 (wTrb.setCell ⟨g14, 0, none⟩ (.int .i64 xp)) ∧ IB (wTrb.setCell ⟨g14, 0, none⟩ (.int .i64 xp)) g14 N := ⟨hS.1.setCell (p := ⟨g14, 0, none⟩) hg _, hS.2.put 0 xp⟩
            go_simp
            refine hK.out _ _ hS_ (fun _ => ?_)
            clear hS zs fs
            generalize hW_ : wTrb.setCell ⟨g14, 0, none⟩ (.int .i64 xp) = wSs at hS_ ⊢
            clear hW_
            have hS := hS_
            clear hS_
            clear hK K
            (try simp only [Act.put, aT, aZ, aS])
            refine wpAnyH_take (i := 18) (oi := ⟨some 73, .indexAddr 31 (.tmp 57) (.tmp 61), 0, "law.go:55", #[⟨1, .data⟩, ⟨5, .data⟩, ⟨0, .phase⟩, ⟨1, .phase⟩, ⟨2, .phase⟩, ⟨3, .phase⟩, ⟨4, .phase⟩, ⟨5, .phase⟩, ⟨6, .phase⟩, ⟨7, .phase⟩, ⟨8, .phase⟩, ⟨9, .phase⟩, ⟨10, .phase⟩, ⟨11, .phase⟩, ⟨12, .phase⟩, ⟨13, .phase⟩, ⟨14, .phase⟩, ⟨15, .phase⟩, ⟨16, .phase⟩, ⟨17, .phase⟩], none⟩) (v := ?_) rfl (by kernel_rfl) (by kernel_rfl) (by kernel_rfl) (fun _ _ _ h => by cases h.1) (.inl ⟨by rfl, ?_⟩) (by assumption) ?_
            rotate_left
            · (intro w' hSw; (try dsimp only at hSw); skip; go_simp <;> with_reducible rfl)
            (try simp only [Act.put, aT, aZ, aS])
            refine wpAnyH_ready (rs := [19]) (by kernel_rfl) (by simp) ?_
            refine AllReadyH.cons (o := ⟨none, .store 3 (.tmp 73) (.tmp 71), 0, "law.go:55", #[⟨18, .data⟩, ⟨15, .data⟩, ⟨17, .chain⟩, ⟨0, .phase⟩, ⟨1, .phase⟩, ⟨2, .phase⟩, ⟨3, .phase⟩, ⟨4, .phase⟩, ⟨5, .phase⟩, ⟨6, .phase⟩, ⟨7, .phase⟩, ⟨8, .phase⟩, ⟨9, .phase⟩, ⟨10, .phase⟩, ⟨11, .phase⟩, ⟨12, .phase⟩, ⟨13, .phase⟩, ⟨14, .phase⟩, ⟨15, .phase⟩, ⟨16, .phase⟩, ⟨17, .phase⟩], none⟩) rfl (fun K hK => ?_) ?_
            · obtain ⟨yt, zt⟩ := hS.2.cell (k := ra) (by omega)
              have ft := hS.2.free ra
              have hS_ : Below w5.heap.size w5 (wSs.setCell ⟨g14, ra, none⟩ (.int .i64 xq)) ∧ IB (wSs.setCell ⟨g14, ra, none⟩ (.int .i64 xq)) g14 N := ⟨hS.1.setCell (p := ⟨g14, ra, none⟩) hg _, hS.2.put ra xq⟩
              go_simp
              refine hK.out _ _ hS_ (fun _ => ?_)
              clear hS zt ft
              generalize hW_ : wSs.setCell ⟨g14, ra, none⟩ (.int .i64 xq) = wSt at hS_ ⊢
              clear hW_
              have hS := hS_
              clear hS_
              clear hK K
              (try simp only [Act.put, aT, aZ, aS])
              refine wpAnyH_done (by kernel_rfl) ?_ _
              exact ⟨rfl, _, _, _, _, _, _, _, _, _, _, _, _, _, _, _, _, _, _, rfl, hS.1, hS.2⟩
            exact AllReadyH.nil
          exact AllReadyH.nil
        exact AllReadyH.nil
      refine AllReadyH.cons (o := ⟨some 71, .load 3 (.tmp 70), 3, "law.go:55", #[⟨14, .data⟩], none⟩) rfl (fun K hK => ?_) ?_
      · obtain ⟨xq, cq⟩ := hS.2.cell (k := 0) (by omega)
        go_simp
        refine hK.out _ _ hS (fun _ => ?_)
        clear cq
        clear hK K
        (try simp only [Act.put, aT, aZ, aS])
        refine wpAnyH_ready (rs := [12]) (by kernel_rfl) (by simp) ?_
        refine AllReadyH.cons (o := ⟨some 68, .load 3 (.tmp 67), 3, "law.go:55", #[⟨11, .data⟩], none⟩) rfl (fun K hK => ?_) ?_
        · obtain ⟨xp, cp⟩ := hS.2.cell (k := rb) (by omega)
          go_simp
          refine hK.out _ _ hS (fun _ => ?_)
          clear cp
          clear hK K
          (try simp only [Act.put, aT, aZ, aS])
          refine wpAnyH_take (i := 16) (oi := ⟨some 72, .indexAddr 31 (.tmp 56) (.const (.int .i64 0)), 0, "law.go:55", #[⟨0, .data⟩, ⟨0, .phase⟩, ⟨1, .textOnly .lateStores⟩, ⟨2, .textOnly .lateStores⟩, ⟨3, .textOnly .lateStores⟩, ⟨4, .textOnly .lateStoresUnsure⟩, ⟨5, .phase⟩, ⟨6, .phase⟩, ⟨7, .phase⟩, ⟨8, .phase⟩, ⟨9, .phase⟩, ⟨10, .phase⟩, ⟨11, .phase⟩, ⟨12, .phase⟩, ⟨13, .textOnly .lateStores⟩, ⟨14, .textOnly .lateStoresUnsure⟩, ⟨15, .phase⟩], none⟩) (v := ?_) rfl (by kernel_rfl) (by kernel_rfl) (by kernel_rfl) (fun _ _ _ h => by cases h.1) (.inl ⟨by rfl, ?_⟩) (by assumption) ?_
          rotate_left
          · (intro w' hSw; (try dsimp only at hSw); skip; go_simp <;> with_reducible rfl)
          (try simp only [Act.put, aT, aZ, aS])
          refine wpAnyH_ready (rs := [17]) (by kernel_rfl) (by simp) ?_
          refine AllReadyH.cons (o := ⟨none, .store 3 (.tmp 72) (.tmp 68), 0, "law.go:55", #[⟨16, .data⟩, ⟨12, .data⟩, ⟨10, .chain⟩, ⟨0, .phase⟩, ⟨1, .textOnly .lateStores⟩, ⟨2, .textOnly .lateStores⟩, ⟨3, .textOnly .lateStores⟩, ⟨4, .textOnly .lateStoresUnsure⟩, ⟨5, .phase⟩, ⟨6, .phase⟩, ⟨7, .phase⟩, ⟨8, .phase⟩, ⟨9, .phase⟩, ⟨10, .phase⟩, ⟨11, .phase⟩, ⟨12, .phase⟩, ⟨13, .textOnly .lateStores⟩, ⟨14, .textOnly .lateStoresUnsure⟩, ⟨15, .phase⟩], none⟩) rfl (fun K hK => ?_) ?_
          · obtain ⟨ys, zs⟩ := hS.2.cell (k := 0) (by omega)
            have fs := hS.2.free 0
            have hS_ : Below w5.heap.size w5 (wTrb.setCell ⟨g14, 0, none⟩ (.int .i64 xp)) ∧ IB (wTrb.setCell ⟨g14, 0, none⟩ (.int .i64 xp)) g14 N := ⟨hS.1.setCell (p := ⟨g14, 0, none⟩) hg _, hS.2.put 0 xp⟩
            go_simp
            refine hK.out _ _ hS_ (fun _ => ?_)
            clear hS zs fs
            generalize hW_ : wTrb.setCell ⟨g14, 0, none⟩ (.int .i64 xp) = wSs at hS_ ⊢
            clear hW_
            have hS := hS_
            clear hS_
            clear hK K
            (try simp only [Act.put, aT, aZ, aS])
            refine wpAnyH_take (i := 18) (oi := ⟨some 73, .indexAddr 31 (.tmp 57) (.tmp 61), 0, "law.go:55", #[⟨1, .data⟩, ⟨5, .data⟩, ⟨0, .phase⟩, ⟨1, .phase⟩, ⟨2, .phase⟩, ⟨3, .phase⟩, ⟨4, .phase⟩, ⟨5, .phase⟩, ⟨6, .phase⟩, ⟨7, .phase⟩, ⟨8, .phase⟩, ⟨9, .phase⟩, ⟨10, .phase⟩, ⟨11, .phase⟩, ⟨12, .phase⟩, ⟨13, .phase⟩, ⟨14, .phase⟩, ⟨15, .phase⟩, ⟨16, .phase⟩, ⟨17, .phase⟩], none⟩) (v := ?_) rfl (by kernel_rfl) (by kernel_rfl) (by kernel_rfl) (fun _ _ _ h => by cases h.1) (.inl ⟨by rfl, ?_⟩) (by assumption) ?_
            rotate_left
            · (intro w' hSw; (try dsimp only at hSw); skip; go_simp <;> with_reducible rfl)
            (try simp only [Act.put, aT, aZ, aS])
            refine wpAnyH_ready (rs := [19]) (by kernel_rfl) (by simp) ?_
            refine AllReadyH.cons (o := ⟨none, .store 3 (.tmp 73) (.tmp 71), 0, "law.go:55", #[⟨18, .data⟩, ⟨15, .data⟩, ⟨17, .chain⟩, ⟨0, .phase⟩, ⟨1, .phase⟩, ⟨2, .phase⟩, ⟨3, .phase⟩, ⟨4, .phase⟩, ⟨5, .phase⟩, ⟨6, .phase⟩, ⟨7, .phase⟩, ⟨8, .phase⟩, ⟨9, .phase⟩, ⟨10, .phase⟩, ⟨11, .phase⟩, ⟨12, .phase⟩, ⟨13, .phase⟩, ⟨14, .phase⟩, ⟨15, .phase⟩, ⟨16, .phase⟩, ⟨17, .phase⟩], none⟩) rfl (fun K hK => ?_) ?_
            · obtain ⟨yt, zt⟩ := hS.2.cell (k := ra) (by omega)
              have ft := hS.2.free ra
              have hS_ : Below w5.heap.size w5 (wSs.setCell ⟨g14, ra, none⟩ (.int .i64 xq)) ∧ IB (wSs.setCell ⟨g14, ra, none⟩ (.int .i64 xq)) g14 N := ⟨hS.1.setCell (p := ⟨g14, ra, none⟩) hg _, hS.2.put ra xq⟩
              go_simp
              refine hK.out _ _ hS_ (fun _ => ?_)
              clear hS zt ft
              generalize hW_ : wSs.setCell ⟨g14, ra, none⟩ (.int .i64 xq) = wSt at hS_ ⊢
              clear hW_
              have hS := hS_
              clear hS_
              clear hK K
              (try simp only [Act.put, aT, aZ, aS])
              refine wpAnyH_done (by kernel_rfl) ?_ _
              exact ⟨rfl, _, _, _, _, _, _, _, _, _, _, _, _, _, _, _, _, _, _, rfl, hS.1, hS.2⟩
            exact AllReadyH.nil
          exact AllReadyH.nil
        exact AllReadyH.nil
      exact AllReadyH.nil
    refine AllReadyH.cons (o := ⟨some 71, .load 3 (.tmp 70), 3, "law.go:55", #[⟨14, .data⟩], none⟩) rfl (fun K hK => ?_) ?_
    · obtain ⟨xq, cq⟩ := hS.2.cell (k := 0) (by omega)
      go_simp
      refine hK.out _ _ hS (fun _ => ?_)
      clear cq
      clear hK K
      (try simp only [Act.put, aT, aZ, aS])
      refine wpAnyH_ready (rs := [10]) (by kernel_rfl) (by simp) ?_
      refine AllReadyH.cons (o := ⟨some 66, .call { callee := .value (.func 20), args := #[.tmp 63, .tmp 65], argTypes := #[3, 3] }, 3, "law.go:55", #[⟨7, .data⟩, ⟨9, .data⟩, ⟨5, .chain⟩], none⟩) rfl (fun K hK => ?_) ?_
      · go_simp
        go_at_call 20
        refine (turnN_any atv N har ⟨by omega, by omega⟩ _).mono ?_
        rintro e wTrb ⟨rb, rfl, hrb, hbT⟩
        have hS_ : Below w5.heap.size w5 wTrb ∧ IB wTrb g14 N := ⟨hS.1.trans (hbT.mono hS.1.size), hS.2.below hbT hS.2.lt⟩
        have irb : (rb : Int) < (N : Int) := by omega
        have krb : rb < N := hrb
        have jrb : (0 : Int) ≤ (rb : Int) := by omega
        clear hS hbT
        have hS := hS_
        clear hS_
        go_wp2_with fail
        refine hK.out _ _ hS (fun _ => ?_)
        clear hK K
        (try simp only [Act.put, aT, aZ, aS])
        refine wpAnyH_take (i := 11) (oi := ⟨some 67, .indexAddr 31 (.tmp 62) (.tmp 66), 0, "law.go:55", #[⟨6, .data⟩, ⟨10, .data⟩], none⟩) (v := ?_) rfl (by kernel_rfl) (by kernel_rfl) (by kernel_rfl) (fun _ _ _ h => by cases h.1) (.inl ⟨by rfl, ?_⟩) (by assumption) ?_
        rotate_left
        · (intro w' hSw; (try dsimp only at hSw); skip; go_simp <;> with_reducible rfl)
        (try simp only [Act.put, aT, aZ, aS])
        refine wpAnyH_ready (rs := [12]) (by kernel_rfl) (by simp) ?_
        refine AllReadyH.cons (o := ⟨some 68, .load 3 (.tmp 67), 3, "law.go:55", #[⟨11, .data⟩], none⟩) rfl (fun K hK => ?_) ?_
        · obtain ⟨xp, cp⟩ := hS.2.cell (k := rb) (by omega)
          go_simp
          refine hK.out _ _ hS (fun _ => ?_)
          clear cp
          clear hK K
          (try simp only [Act.put, aT, aZ, aS])
          refine wpAnyH_take (i := 16) (oi := ⟨some 72, .indexAddr 31 (.tmp 56) (.const (.int .i64 0)), 0, "law.go:55", #[⟨0, .data⟩, ⟨0, .phase⟩, ⟨1, .textOnly .lateStores⟩, ⟨2, .textOnly .lateStores⟩, ⟨3, .textOnly .lateStores⟩, ⟨4, .textOnly .lateStoresUnsure⟩, ⟨5, .phase⟩, ⟨6, .phase⟩, ⟨7, .phase⟩, ⟨8, .phase⟩, ⟨9, .phase⟩, ⟨10, .phase⟩, ⟨11, .phase⟩, ⟨12, .phase⟩, ⟨13, .textOnly .lateStores⟩, ⟨14, .textOnly .lateStoresUnsure⟩, ⟨15, .phase⟩], none⟩) (v := ?_) rfl (by kernel_rfl) (by kernel_rfl) (by kernel_rfl) (fun _ _ _ h => by cases h.1) (.inl ⟨by rfl, ?_⟩) (by assumption) ?_
          rotate_left
          · (intro w' hSw; (try dsimp only at hSw); skip; go_simp <;> with_reducible rfl)
          (try simp only [Act.put, aT, aZ, aS])
          refine wpAnyH_ready (rs := [17]) (by kernel_rfl) (by simp) ?_
          refine AllReadyH.cons (o := ⟨none, .store 3 (.tmp 72) (.tmp 68), 0, "law.go:55", #[⟨16, .data⟩, ⟨12, .data⟩, ⟨10, .chain⟩, ⟨0, .phase⟩, ⟨1, .textOnly .lateStores⟩, ⟨2, .textOnly .lateStores⟩, ⟨3, .textOnly .lateStores⟩, ⟨4, .textOnly .lateStoresUnsure⟩, ⟨5, .phase⟩, ⟨6, .phase⟩, ⟨7, .phase⟩, ⟨8, .phase⟩, ⟨9, .phase⟩, ⟨10, .phase⟩, ⟨11, .phase⟩, ⟨12, .phase⟩, ⟨13, .textOnly .lateStores⟩, ⟨14, .textOnly .lateStoresUnsure⟩, ⟨15, .phase⟩], none⟩) rfl (fun K hK => ?_) ?_
          · obtain ⟨ys, zs⟩ := hS.2.cell (k := 0) (by omega)
            have fs := hS.2.free 0
            have hS_ : Below w5.heap.size w5 (wTrb.setCell ⟨g14, 0, none⟩ (.int .i64 xp)) ∧ IB (wTrb.setCell ⟨g14, 0, none⟩ (.int .i64 xp)) g14 N := ⟨hS.1.setCell (p := ⟨g14, 0, none⟩) hg _, hS.2.put 0 xp⟩
            go_simp
            refine hK.out _ _ hS_ (fun _ => ?_)
            clear hS zs fs
            generalize hW_ : wTrb.setCell ⟨g14, 0, none⟩ (.int .i64 xp) = wSs at hS_ ⊢
            clear hW_
            have hS := hS_
            clear hS_
            clear hK K
            (try simp only [Act.put, aT, aZ, aS])
            refine wpAnyH_take (i := 18) (oi := ⟨some 73, .indexAddr 31 (.tmp 57) (.tmp 61), 0, "law.go:55", #[⟨1, .data⟩, ⟨5, .data⟩, ⟨0, .phase⟩, ⟨1, .phase⟩, ⟨2, .phase⟩, ⟨3, .phase⟩, ⟨4, .phase⟩, ⟨5, .phase⟩, ⟨6, .phase⟩, ⟨7, .phase⟩, ⟨8, .phase⟩, ⟨9, .phase⟩, ⟨10, .phase⟩, ⟨11, .phase⟩, ⟨12, .phase⟩, ⟨13, .phase⟩, ⟨14, .phase⟩, ⟨15, .phase⟩, ⟨16, .phase⟩, ⟨17, .phase⟩], none⟩) (v := ?_) rfl (by kernel_rfl) (by kernel_rfl) (by kernel_rfl) (fun _ _ _ h => by cases h.1) (.inl ⟨by rfl, ?_⟩) (by assumption) ?_
            rotate_left
            · (intro w' hSw; (try dsimp only at hSw); skip; go_simp <;> with_reducible rfl)
            (try simp only [Act.put, aT, aZ, aS])
            refine wpAnyH_ready (rs := [19]) (by kernel_rfl) (by simp) ?_
            refine AllReadyH.cons (o := ⟨none, .store 3 (.tmp 73) (.tmp 71), 0, "law.go:55", #[⟨18, .data⟩, ⟨15, .data⟩, ⟨17, .chain⟩, ⟨0, .phase⟩, ⟨1, .phase⟩, ⟨2, .phase⟩, ⟨3, .phase⟩, ⟨4, .phase⟩, ⟨5, .phase⟩, ⟨6, .phase⟩, ⟨7, .phase⟩, ⟨8, .phase⟩, ⟨9, .phase⟩, ⟨10, .phase⟩, ⟨11, .phase⟩, ⟨12, .phase⟩, ⟨13, .phase⟩, ⟨14, .phase⟩, ⟨15, .phase⟩, ⟨16, .phase⟩, ⟨17, .phase⟩], none⟩) rfl (fun K hK => ?_) ?_
            · obtain ⟨yt, zt⟩ := hS.2.cell (k := ra) (by omega)
              have ft := hS.2.free ra
              have hS_ : Below w5.heap.size w5 (wSs.setCell ⟨g14, ra, none⟩ (.int .i64 xq)) ∧ IB (wSs.setCell ⟨g14, ra, none⟩ (.int .i64 xq)) g14 N := ⟨hS.1.setCell (p := ⟨g14, ra, none⟩) hg _, hS.2.put ra xq⟩
              go_simp
              refine hK.out _ _ hS_ (fun _ => ?_)
              clear hS zt ft
              generalize hW_ : wSs.setCell ⟨g14, ra, none⟩ (.int .i64 xq) = wSt at hS_ ⊢
              clear hW_
              have hS := hS_
              clear hS_
              clear hK K
              (try simp only [Act.put, aT, aZ, aS])
              refine wpAnyH_done (by kernel_rfl) ?_ _
              exact ⟨rfl, _, _, _, _, _, _, _, _, _, _, _, _, _, _, _, _, _, _, rfl, hS.1, hS.2⟩
            exact AllReadyH.nil
          exact AllReadyH.nil
        exact AllReadyH.nil
      exact AllReadyH.nil
    exact AllReadyH.nil
  refine AllReadyH.cons (o := ⟨some 71, .load 3 (.tmp 70), 3, "law.go:55", #[⟨14, .data⟩], none⟩) rfl (fun K hK => ?_) ?_
  · obtain ⟨xq, cq⟩ := hS.2.cell (k := 0) (by omega)
    go_simp
    refine hK.out _ _ hS (fun _ => ?_)
    clear cq
    clear hK K
    (try simp only [Act.put, aT, aZ, aS])
    refine wpAnyH_ready (rs := [5]) (by kernel_rfl) (by simp) ?_
    refine AllReadyH.cons (o := ⟨some 61, .call { callee := .value (.func 20), args := #[.tmp 58, .tmp 60], argTypes := #[3, 3] }, 3, "law.go:55", #[⟨2, .data⟩, ⟨4, .data⟩], none⟩) rfl (fun K hK => ?_) ?_
    · go_simp
      go_at_call 20
      refine (turnN_any atv N har ⟨by omega, by omega⟩ _).mono ?_
      rintro e wTra ⟨ra, rfl, hra, hbT⟩
      have hS_ : Below w5.heap.size w5 wTra ∧ IB wTra g14 N := ⟨hS.1.trans (hbT.mono hS.1.size), hS.2.below hbT hS.2.lt⟩
      have ira : (ra : Int) < (N : Int) := by omega
      have kra : ra < N := hra
      have jra : (0 : Int) ≤ (ra : Int) := by omega
      clear hS hbT
      have hS := hS_
      clear hS_
      go_wp2_with fail
      refine hK.out _ _ hS (fun _ => ?_)
      clear hK K
      (try simp only [Act.put, aT, aZ, aS])
      refine wpAnyH_ready (rs := [10]) (by kernel_rfl) (by simp) ?_
      refine AllReadyH.cons (o := ⟨some 66, .call { callee := .value (.func 20), args := #[.tmp 63, .tmp 65], argTypes := #[3, 3] }, 3, "law.go:55", #[⟨7, .data⟩, ⟨9, .data⟩, ⟨5, .chain⟩], none⟩) rfl (fun K hK => ?_) ?_
      · go_simp
        go_at_call 20
        refine (turnN_any atv N har ⟨by omega, by omega⟩ _).mono ?_
        rintro e wTrb ⟨rb, rfl, hrb, hbT⟩
        have hS_ : Below w5.heap.size w5 wTrb ∧ IB wTrb g14 N := ⟨hS.1.trans (hbT.mono hS.1.size), hS.2.below hbT hS.2.lt⟩
        have irb : (rb : Int) < (N : Int) := by omega
        have krb : rb < N := hrb
        have jrb : (0 : Int) ≤ (rb : Int) := by omega
        clear hS hbT
        have hS := hS_
        clear hS_
        go_wp2_with fail
        refine hK.out _ _ hS (fun _ => ?_)
        clear hK K
        (try simp only [Act.put, aT, aZ, aS])
        refine wpAnyH_take (i := 11) (oi := ⟨some 67, .indexAddr 31 (.tmp 62) (.tmp 66), 0, "law.go:55", #[⟨6, .data⟩, ⟨10, .data⟩], none⟩) (v := ?_) rfl (by kernel_rfl) (by kernel_rfl) (by kernel_rfl) (fun _ _ _ h => by cases h.1) (.inl ⟨by rfl, ?_⟩) (by assumption) ?_
        rotate_left
        · (intro w' hSw; (try dsimp only at hSw); skip; go_simp <;> with_reducible rfl)
        (try simp only [Act.put, aT, aZ, aS])
        refine wpAnyH_ready (rs := [12]) (by kernel_rfl) (by simp) ?_
        refine AllReadyH.cons (o := ⟨some 68, .load 3 (.tmp 67), 3, "law.go:55", #[⟨11, .data⟩], none⟩) rfl (fun K hK => ?_) ?_
        · obtain ⟨xp, cp⟩ := hS.2.cell (k := rb) (by omega)
          go_simp
          refine hK.out _ _ hS (fun _ => ?_)
          clear cp
          clear hK K
          (try simp only [Act.put, aT, aZ, aS])
          refine wpAnyH_take (i := 16) (oi := ⟨some 72, .indexAddr 31 (.tmp 56) (.const (.int .i64 0)), 0, "law.go:55", #[⟨0, .data⟩, ⟨0, .phase⟩, ⟨1, .textOnly .lateStores⟩, ⟨2, .textOnly .lateStores⟩, ⟨3, .textOnly .lateStores⟩, ⟨4, .textOnly .lateStoresUnsure⟩, ⟨5, .phase⟩, ⟨6, .phase⟩, ⟨7, .phase⟩, ⟨8, .phase⟩, ⟨9, .phase⟩, ⟨10, .phase⟩, ⟨11, .phase⟩, ⟨12, .phase⟩, ⟨13, .textOnly .lateStores⟩, ⟨14, .textOnly .lateStoresUnsure⟩, ⟨15, .phase⟩], none⟩) (v := ?_) rfl (by kernel_rfl) (by kernel_rfl) (by kernel_rfl) (fun _ _ _ h => by cases h.1) (.inl ⟨by rfl, ?_⟩) (by assumption) ?_
          rotate_left
          · (intro w' hSw; (try dsimp only at hSw); skip; go_simp <;> with_reducible rfl)
          (try simp only [Act.put, aT, aZ, aS])
          refine wpAnyH_ready (rs := [17]) (by kernel_rfl) (by simp) ?_
          refine AllReadyH.cons (o := ⟨none, .store 3 (.tmp 72) (.tmp 68), 0, "law.go:55", #[⟨16, .data⟩, ⟨12, .data⟩, ⟨10, .chain⟩, ⟨0, .phase⟩, ⟨1, .textOnly .lateStores⟩, ⟨2, .textOnly .lateStores⟩, ⟨3, .textOnly .lateStores⟩, ⟨4, .textOnly .lateStoresUnsure⟩, ⟨5, .phase⟩, ⟨6, .phase⟩, ⟨7, .phase⟩, ⟨8, .phase⟩, ⟨9, .phase⟩, ⟨10, .phase⟩, ⟨11, .phase⟩, ⟨12, .phase⟩, ⟨13, .textOnly .lateStores⟩, ⟨14, .textOnly .lateStoresUnsure⟩, ⟨15, .phase⟩], none⟩) rfl (fun K hK => ?_) ?_
          · obtain ⟨ys, zs⟩ := hS.2.cell (k := 0) (by omega)
            have fs := hS.2.free 0
            have hS_ : Below w5.heap.size w5 (wTrb.setCell ⟨g14, 0, none⟩ (.int .i64 xp)) ∧ IB (wTrb.setCell ⟨g14, 0, none⟩ (.int .i64 xp)) g14 N := ⟨hS.1.setCell (p := ⟨g14, 0, none⟩) hg _, hS.2.put 0 xp⟩
            go_simp
            refine hK.out _ _ hS_ (fun _ => ?_)
            clear hS zs fs
            generalize hW_ : wTrb.setCell ⟨g14, 0, none⟩ (.int .i64 xp) = wSs at hS_ ⊢
            clear hW_
            have hS := hS_
            clear hS_
            clear hK K
            (try simp only [Act.put, aT, aZ, aS])
            refine wpAnyH_take (i := 18) (oi := ⟨some 73, .indexAddr 31 (.tmp 57) (.tmp 61), 0, "law.go:55", #[⟨1, .data⟩, ⟨5, .data⟩, ⟨0, .phase⟩, ⟨1, .phase⟩, ⟨2, .phase⟩, ⟨3, .phase⟩, ⟨4, .phase⟩, ⟨5, .phase⟩, ⟨6, .phase⟩, ⟨7, .phase⟩, ⟨8, .phase⟩, ⟨9, .phase⟩, ⟨10, .phase⟩, ⟨11, .phase⟩, ⟨12, .phase⟩, ⟨13, .phase⟩, ⟨14, .phase⟩, ⟨15, .phase⟩, ⟨16, .phase⟩, ⟨17, .phase⟩], none⟩) (v := ?_) rfl (by kernel_rfl) (by kernel_rfl) (by kernel_rfl) (fun _ _ _ h => by cases h.1) (.inl ⟨by rfl, ?_⟩) (by assumption) ?_
            rotate_left
            · (intro w' hSw; (try dsimp only at hSw); skip; go_simp <;> with_reducible rfl)
            (try simp only [Act.put, aT, aZ, aS])
            refine wpAnyH_ready (rs := [19]) (by kernel_rfl) (by simp) ?_
            refine AllReadyH.cons (o := ⟨none, .store 3 (.tmp 73) (.tmp 71), 0, "law.go:55", #[⟨18, .data⟩, ⟨15, .data⟩, ⟨17, .chain⟩, ⟨0, .phase⟩, ⟨1, .phase⟩, ⟨2, .phase⟩, ⟨3, .phase⟩, ⟨4, .phase⟩, ⟨5, .phase⟩, ⟨6, .phase⟩, ⟨7, .phase⟩, ⟨8, .phase⟩, ⟨9, .phase⟩, ⟨10, .phase⟩, ⟨11, .phase⟩, ⟨12, .phase⟩, ⟨13, .phase⟩, ⟨14, .phase⟩, ⟨15, .phase⟩, ⟨16, .phase⟩, ⟨17, .phase⟩], none⟩) rfl (fun K hK => ?_) ?_
            · obtain ⟨yt, zt⟩ := hS.2.cell (k := ra) (by omega)
              have ft := hS.2.free ra
              have hS_ : Below w5.heap.size w5 (wSs.setCell ⟨g14, ra, none⟩ (.int .i64 xq)) ∧ IB (wSs.setCell ⟨g14, ra, none⟩ (.int .i64 xq)) g14 N := ⟨hS.1.setCell (p := ⟨g14, ra, none⟩) hg _, hS.2.put ra xq⟩
              go_simp
              refine hK.out _ _ hS_ (fun _ => ?_)
              clear hS zt ft
              generalize hW_ : wSs.setCell ⟨g14, ra, none⟩ (.int .i64 xq) = wSt at hS_ ⊢
              clear hW_
              have hS := hS_
              clear hS_
              clear hK K
              (try simp only [Act.put, aT, aZ, aS])
              refine wpAnyH_done (by kernel_rfl) ?_ _
              exact ⟨rfl, _, _, _, _, _, _, _, _, _, _, _, _, _, _, _, _, _, _, rfl, hS.1, hS.2⟩
            exact AllReadyH.nil
          exact AllReadyH.nil
        exact AllReadyH.nil
      exact AllReadyH.nil
    exact AllReadyH.nil
  exact AllReadyH.nil
set_option maxHeartbeats 4000000 in
set_option maxRecDepth 1000000 in
theorem slpart5 {w0 w : World} {g5 g12 b : Nat} {J M : Jb} {a : Option Addr} {n c : Nat} {ma : Option Addr} {mn mc : Nat} {sa : Option Addr} {sn sc : Nat} {sl : List Int} {atv byv : Int} {oa : Option Addr} {on oc : Nat} {ol : List Int} {u0 u4 u6 u7 u8 u9 u10 u14 u15 u16 u17 u18 u19 u20 u21 u22 u23 u24 u25 u26 u27 u28 u29 u30 u31 u32 u33 u34 u35 u36 u37 u38 u39 u40 u41 u42 u43 u44 u45 u46 u47 u48 u49 u50 u51 u52 u53 u54 u55 u56 u57 u58 u59 u60 u61 u62 u63 u64 u65 u66 u67 u68 u69 u70 u71 u72 u73 u74 u75 u76 u77 u78 u79 u80 u81 u82 u83 u84 u85 u86 u87 u88 u89 u90 u91 u92 u93 u94 u95 u96 u97 u98 u99 u100 u101 u102 u103 u104 u105 u106 u107 u108 u109 u110 u111 u112 u113 u114 u115 u116 u117 u118 u119 u120 u121 u122 u123 u124 u125 u126 u127 u128 u129 u130 u131 u132 u133 u134 u135 u136 u137 u138 u139 u140 u141 u142 u143 u144 u145 u146 u147 u148 u149 u150 u151 u152 u153 u154 u155 u156 u157 u158 u159 u160 u161 u162 u163 u164 u165 u166 u167 u168 u169 u170 u171 u172 u173 u174 u175 u176 u177 u178 u179 u180 u181 u182 u183 u184 u185 u186 u187 u188 u189 u190 u191 u192 u193 u194 u195 u196 u197 u198 u199 u200 u201 u202 u203 u204 u205 u206 u207 u208 u209 u210 u211 u212 u213 u214 u215 u216 u217 u218 u219 u220 u221 u222 u223 u224 u225 u226 u227 u228 u229 u230 : Value} (htun : TunF) (har : -9223372036854775808 ≤ atv ∧ atv ≤ 9223372036854775807) (hs : S4 w0 w g5 g12 b J M a n c ma mn mc sa sn sl) (ho : Is w w.heap.size oa ol) (hon : on = ol.length) (hon6 : on ≤ 6) : Code.wp Try.prog slrest5 (QSL w0) ⟨#[u0, (.slice sa sn sc), (.int .i64 atv), (.int .i64 byv), u4, (.pointer (some ⟨g5, 0, none⟩)), u6, u7, u8, u9, u10, (.pointer (some ⟨b, 0, none⟩)), (.pointer (some ⟨g12, 0, none⟩)), (.slice oa on oc), u14, u15, u16, u17, u18, u19, u20, u21, u22, u23, u24, u25, u26, u27, u28, u29, u30, u31, u32, u33, u34, u35, u36, u37, u38, u39, u40, u41, u42, u43, u44, u45, u46, u47, u48, u49, u50, u51, u52, u53, u54, u55, u56, u57, u58, u59, u60, u61, u62, u63, u64, u65, u66, u67, u68, u69, u70, u71, u72, u73, u74, u75, u76, u77, u78, u79, u80, u81, u82, u83, u84, u85, u86, u87, u88, u89, u90, u91, u92, u93, u94, u95, u96, u97, u98, u99, u100, u101, u102, u103, u104, u105, u106, u107, u108, u109, u110, u111, u112, u113, u114, u115, u116, u117, u118, u119, u120, u121, u122, u123, u124, u125, u126, u127, u128, u129, u130, u131, u132, u133, u134, u135, u136, u137, u138, u139, u140, u141, u142, u143, u144, u145, u146, u147, u148, u149, u150, u151, u152, u153, u154, u155, u156, u157, u158, u159, u160, u161, u162, u163, u164, u165, u166, u167, u168, u169, u170, u171, u172, u173, u174, u175, u176, u177, u178, u179, u180, u181, u182, u183, u184, u185, u186, u187, u188, u189, u190, u191, u192, u193, u194, u195, u196, u197, u198, u199, u200, u201, u202, u203, u204, u205, u206, u207, u208, u209, u210, u211, u212, u213, u214, u215, u216, u217, u218, u219, u220, u221, u222, u223, u224, u225, u226, u227, u228, u229, u230], []⟩ w := by
  rw [slrest5_eq]
  obtain ⟨i0, hi, hz0, hz1, hz2⟩ := info_parts infoInt
  have Hi : Hid (Try.prog.info? 3 = some i0) := hi
  have Hz0 := hidMk hz0
  have Hz1 := hidMk hz1
  have Hz2 := hidMk hz2
  clear hi hz0 hz1 hz2
  have HT := hidMk htun
  have HS := hidMk hs
  have HO := hidMk ho
  have HON := hidMk hon
  clear hs htun ho hon
  cases oa with
  | none =>
    have hol : on = 0 := by
      rw [HON.out]
      cases ol with
      | nil => rfl
      | cons x l =>
        obtain ⟨_, _, e, _⟩ := HO.out 0 x rfl
        cases e
    subst hol
    go_wp2_with fail
    exact slpart6 (w5 := w) HT.out har HS.out HO.out HON.out hon6 ((Below.refl _ _).alloc (Nat.le_refl _) _) (ib_one _ _) (Nat.le_refl _) rfl
  | some ad =>
    have own0 : (w.alloc (.cells #[.int .i64 byv] 3)).ownsRow w.heap.size 3 1 (.slice (some ⟨w.heap.size, 0, none⟩) 1 1) 1 [.int .i64 byv] :=
      ⟨rfl, .inr ⟨w.heap.size, 1, #[.int .i64 byv], rfl, Nat.le_refl _, Bk.new _ _ _, Nat.le_refl _, by decide, rfl, rfl⟩⟩
    have Ho := hidMk own0
    clear own0
    go_wp2_with (at_builtin; refine wpList_append_own_at _ rfl (.tmp 53) (.tmp 54) 31 rfl w.heap.size 3 i0 (.int .i64 0) 1 8 Try.underlying31 Hi.out Hz0.out Hz1.out Hz2.out rfl (by decide) _ 1 [.int .i64 byv] rfl Ho.out ad on oc (ol.map (Value.int .i64)) rfl (by rw [List.length_map, HON.out]; omega) (is_news (HO.out.up ((Below.refl _ _).alloc (Nat.le_refl _) _))) (is_one ol) (by unfold maxLen; omega) (by omega) (by simp) ?_; intro v' w3 own' hg _ at_; obtain ⟨g14, vc, rfl, hgB, hIB⟩ := IB.of_own own' (ints_app byv ol) (by omega); have HIB := hidMk hIB; have HG := hidMk hg; clear own' hIB hg at_)
    have hB : Below w.heap.size w w3 := ((Below.refl _ _).alloc (Nat.le_refl _) (.cells #[.int .i64 byv] 3)).grown HG.out (by simp) (fun g e => by cases e; exact Nat.le_refl _)
    exact slpart6 (w5 := w) HT.out har HS.out HO.out HON.out hon6 hB HIB.out hgB (by omega)
set_option maxHeartbeats 4000000 in
set_option maxRecDepth 1000000 in
theorem slpart4 {w0 w : World} {g5 g12 b : Nat} {J M : Jb} {a : Option Addr} {n c : Nat} {ma : Option Addr} {mn mc : Nat} {sa : Option Addr} {sn sc : Nat} {sl : List Int} {atv byv : Int} {u0 u4 u6 u7 u8 u9 u10 u13 u14 u15 u16 u17 u18 u19 u20 u21 u22 u23 u24 u25 u26 u27 u28 u29 u30 u31 u32 u33 u34 u35 u36 u37 u38 u39 u40 u41 u42 u43 u44 u45 u46 u47 u48 u49 u50 u51 u52 u53 u54 u55 u56 u57 u58 u59 u60 u61 u62 u63 u64 u65 u66 u67 u68 u69 u70 u71 u72 u73 u74 u75 u76 u77 u78 u79 u80 u81 u82 u83 u84 u85 u86 u87 u88 u89 u90 u91 u92 u93 u94 u95 u96 u97 u98 u99 u100 u101 u102 u103 u104 u105 u106 u107 u108 u109 u110 u111 u112 u113 u114 u115 u116 u117 u118 u119 u120 u121 u122 u123 u124 u125 u126 u127 u128 u129 u130 u131 u132 u133 u134 u135 u136 u137 u138 u139 u140 u141 u142 u143 u144 u145 u146 u147 u148 u149 u150 u151 u152 u153 u154 u155 u156 u157 u158 u159 u160 u161 u162 u163 u164 u165 u166 u167 u168 u169 u170 u171 u172 u173 u174 u175 u176 u177 u178 u179 u180 u181 u182 u183 u184 u185 u186 u187 u188 u189 u190 u191 u192 u193 u194 u195 u196 u197 u198 u199 u200 u201 u202 u203 u204 u205 u206 u207 u208 u209 u210 u211 u212 u213 u214 u215 u216 u217 u218 u219 u220 u221 u222 u223 u224 u225 u226 u227 u228 u229 u230 : Value} (htun : TunF) (har : -9223372036854775808 ≤ atv ∧ atv ≤ 9223372036854775807) (hs : S4 w0 w g5 g12 b J M a n c ma mn mc sa sn sl) : Code.wp Try.prog slrest4 (QSL w0) ⟨#[u0, (.slice sa sn sc), (.int .i64 atv), (.int .i64 byv), u4, (.pointer (some ⟨g5, 0, none⟩)), u6, u7, u8, u9, u10, (.pointer (some ⟨b, 0, none⟩)), (.pointer (some ⟨g12, 0, none⟩)), u13, u14, u15, u16, u17, u18, u19, u20, u21, u22, u23, u24, u25, u26, u27, u28, u29, u30, u31, u32, u33, u34, u35, u36, u37, u38, u39, u40, u41, u42, u43, u44, u45, u46, u47, u48, u49, u50, u51, u52, u53, u54, u55, u56, u57, u58, u59, u60, u61, u62, u63, u64, u65, u66, u67, u68, u69, u70, u71, u72, u73, u74, u75, u76, u77, u78, u79, u80, u81, u82, u83, u84, u85, u86, u87, u88, u89, u90, u91, u92, u93, u94, u95, u96, u97, u98, u99, u100, u101, u102, u103, u104, u105, u106, u107, u108, u109, u110, u111, u112, u113, u114, u115, u116, u117, u118, u119, u120, u121, u122, u123, u124, u125, u126, u127, u128, u129, u130, u131, u132, u133, u134, u135, u136, u137, u138, u139, u140, u141, u142, u143, u144, u145, u146, u147, u148, u149, u150, u151, u152, u153, u154, u155, u156, u157, u158, u159, u160, u161, u162, u163, u164, u165, u166, u167, u168, u169, u170, u171, u172, u173, u174, u175, u176, u177, u178, u179, u180, u181, u182, u183, u184, u185, u186, u187, u188, u189, u190, u191, u192, u193, u194, u195, u196, u197, u198, u199, u200, u201, u202, u203, u204, u205, u206, u207, u208, u209, u210, u211, u212, u213, u214, u215, u216, u217, u218, u219, u220, u221, u222, u223, u224, u225, u226, u227, u228, u229, u230], []⟩ w := by
  rw [slrest4_eq]
  have HT := hidMk htun
  have HS := hidMk hs
  clear hs htun
  go_wp2_with fail
  refine (strokesOf_any b _ HS.out.pt).mono ?_
  rintro e w2 ⟨oa, on, oc, ol, rfl, hon, hon6, _, hos, hk, hp⟩
  have H := hidMk (HS.out.pot hk hp)
  have HO := hidMk hos
  have HON := hidMk hon
  clear hk hp hos HS hon
  go_wp2_with fail
  exact slpart5 HT.out har H.out HO.out HON.out hon6
set_option maxHeartbeats 4000000 in
set_option maxRecDepth 1000000 in
theorem slpart2 {w0 : World} {J : Jb} {a : Option Addr} {n c : Nat} {sa : Option Addr} {sn sc : Nat} {sl : List Int} {atv byv : Int} {na : Option Addr} {nn nc : Nat} {nl : List Int} {g5 : Nat} {w : World} {u0 u6 u7 u8 u9 u10 u11 u12 u13 u14 u15 u16 u17 u18 u19 u20 u21 u22 u23 u24 u25 u26 u27 u28 u29 u30 u31 u32 u33 u34 u35 u36 u37 u38 u39 u40 u41 u42 u43 u44 u45 u46 u47 u48 u49 u50 u51 u52 u53 u54 u55 u56 u57 u58 u59 u60 u61 u62 u63 u64 u65 u66 u67 u68 u69 u70 u71 u72 u73 u74 u75 u76 u77 u78 u79 u80 u81 u82 u83 u84 u85 u86 u87 u88 u89 u90 u91 u92 u93 u94 u95 u96 u97 u98 u99 u100 u101 u102 u103 u104 u105 u106 u107 u108 u109 u110 u111 u112 u113 u114 u115 u116 u117 u118 u119 u120 u121 u122 u123 u124 u125 u126 u127 u128 u129 u130 u131 u132 u133 u134 u135 u136 u137 u138 u139 u140 u141 u142 u143 u144 u145 u146 u147 u148 u149 u150 u151 u152 u153 u154 u155 u156 u157 u158 u159 u160 u161 u162 u163 u164 u165 u166 u167 u168 u169 u170 u171 u172 u173 u174 u175 u176 u177 u178 u179 u180 u181 u182 u183 u184 u185 u186 u187 u188 u189 u190 u191 u192 u193 u194 u195 u196 u197 u198 u199 u200 u201 u202 u203 u204 u205 u206 u207 u208 u209 u210 u211 u212 u213 u214 u215 u216 u217 u218 u219 u220 u221 u222 u223 u224 u225 u226 u227 u228 u229 u230 : Value} (htun : TunF) (hjob : JobOK) (hs : S0 w0 w g5 J a n c sa sn sl atv na nn nl) (hn20 : n ≤ 20) (hs20 : sn ≤ 20) : Code.wp Try.prog slrest2 (QSL w0) ⟨#[u0, (.slice sa sn sc), (.int .i64 atv), (.int .i64 byv), (.slice na nn nc), (.pointer (some ⟨g5, 0, none⟩)), u6, u7, u8, u9, u10, u11, u12, u13, u14, u15, u16, u17, u18, u19, u20, u21, u22, u23, u24, u25, u26, u27, u28, u29, u30, u31, u32, u33, u34, u35, u36, u37, u38, u39, u40, u41, u42, u43, u44, u45, u46, u47, u48, u49, u50, u51, u52, u53, u54, u55, u56, u57, u58, u59, u60, u61, u62, u63, u64, u65, u66, u67, u68, u69, u70, u71, u72, u73, u74, u75, u76, u77, u78, u79, u80, u81, u82, u83, u84, u85, u86, u87, u88, u89, u90, u91, u92, u93, u94, u95, u96, u97, u98, u99, u100, u101, u102, u103, u104, u105, u106, u107, u108, u109, u110, u111, u112, u113, u114, u115, u116, u117, u118, u119, u120, u121, u122, u123, u124, u125, u126, u127, u128, u129, u130, u131, u132, u133, u134, u135, u136, u137, u138, u139, u140, u141, u142, u143, u144, u145, u146, u147, u148, u149, u150, u151, u152, u153, u154, u155, u156, u157, u158, u159, u160, u161, u162, u163, u164, u165, u166, u167, u168, u169, u170, u171, u172, u173, u174, u175, u176, u177, u178, u179, u180, u181, u182, u183, u184, u185, u186, u187, u188, u189, u190, u191, u192, u193, u194, u195, u196, u197, u198, u199, u200, u201, u202, u203, u204, u205, u206, u207, u208, u209, u210, u211, u212, u213, u214, u215, u216, u217, u218, u219, u220, u221, u222, u223, u224, u225, u226, u227, u228, u229, u230], []⟩ w := by
  rw [slrest2_eq]
  have HT := hidMk htun
  have HJ := hidMk hjob
  have HS := hidMk hs
  have hlt5 := hs.job.lt
  clear hs htun hjob
  go_wp2_with fail
  refine (newPot_any na nn nc nl _ HS.out.nln.1 HS.out.nln.2 HS.out.nums).mono ?_
  rintro e w1 ⟨s, t, rfl, hb, hB1⟩
  have hp1 : Pt w1 w.heap.size := ⟨_, _, hb⟩
  have hz1 := hB1.size
  have HB1 := hidMk hB1
  clear hb hB1
  go_wp2_with fail
  rw [slrest3_eq]
  go_wp2_with fail
  refine (HJ.out _ _ hp1).mono ?_
  rintro e w2 ⟨M, ma, mn, mc, rfl, hmn, hmg, hck, hk2, hp2⟩
  have hz2 := hk2.size
  have hB2 : Below w.heap.size w w2 := HB1.out.trans ((hk2.mono hz1).toBelow (Nat.le_refl _))
  have hsz := HS.out.b0.size
  have al : Below w2.heap.size w2 (w2.alloc (.cells (jobC M (.slice ma mn mc)) 30)) := (Below.refl _ _).alloc (Nat.le_refl _) _
  have H4 : S4 w0 (w2.alloc (.cells (jobC M (.slice ma mn mc)) 30)) g5 w2.heap.size w.heap.size J M a n c ma mn mc sa sn sl :=
    ⟨(HS.out.b0.trans (hB2.mono hsz)).alloc (by omega) _, hsz, hp2.alloc _, (HS.out.job.below hB2 hlt5).alloc _, (HS.out.rg.up hB2).up al, HS.out.en, hn20, Bk.new _ _ _, hmg.up al, hmn, hck, (HS.out.st.up hB2).up al, HS.out.se, hs20⟩
  have HH4 := hidMk H4
  clear H4 hmg hck hmn hk2 hp2 hB2 HB1 al
  go_wp2_with (first | (refine wpList_store_row rfl 30 _ _ rfl w2.heap.size (jobC M (.slice ma mn mc)) rfl rfl _ _ (Bk.new _ _ _) szJob rfl (oneJob _ _ _ _) ?_; rw [World.setRow_alloc_new]))
  exact slpart4 HT.out HS.out.ar HH4.out
set_option maxHeartbeats 4000000 in
set_option maxRecDepth 1000000 in
theorem slpart1 {w0 : World} {J : Jb} {a : Option Addr} {n c : Nat} {sa : Option Addr} {sn sc : Nat} {sl : List Int} {atv byv : Int} {na : Option Addr} {nn nc : Nat} {nl : List Int} {g5 : Nat} {w : World} {u0 u6 u7 u8 u9 u10 u11 u12 u13 u14 u15 u16 u17 u18 u19 u20 u21 u22 u23 u24 u25 u26 u27 u28 u29 u30 u31 u32 u33 u34 u35 u36 u37 u38 u39 u40 u41 u42 u43 u44 u45 u46 u47 u48 u49 u50 u51 u52 u53 u54 u55 u56 u57 u58 u59 u60 u61 u62 u63 u64 u65 u66 u67 u68 u69 u70 u71 u72 u73 u74 u75 u76 u77 u78 u79 u80 u81 u82 u83 u84 u85 u86 u87 u88 u89 u90 u91 u92 u93 u94 u95 u96 u97 u98 u99 u100 u101 u102 u103 u104 u105 u106 u107 u108 u109 u110 u111 u112 u113 u114 u115 u116 u117 u118 u119 u120 u121 u122 u123 u124 u125 u126 u127 u128 u129 u130 u131 u132 u133 u134 u135 u136 u137 u138 u139 u140 u141 u142 u143 u144 u145 u146 u147 u148 u149 u150 u151 u152 u153 u154 u155 u156 u157 u158 u159 u160 u161 u162 u163 u164 u165 u166 u167 u168 u169 u170 u171 u172 u173 u174 u175 u176 u177 u178 u179 u180 u181 u182 u183 u184 u185 u186 u187 u188 u189 u190 u191 u192 u193 u194 u195 u196 u197 u198 u199 u200 u201 u202 u203 u204 u205 u206 u207 u208 u209 u210 u211 u212 u213 u214 u215 u216 u217 u218 u219 u220 u221 u222 u223 u224 u225 u226 u227 u228 u229 u230 : Value} (htun : TunF) (hjob : JobOK) (hs : S0 w0 w g5 J a n c sa sn sl atv na nn nl) : Code.wp Try.prog slrest1 (QSL w0) ⟨#[u0, (.slice sa sn sc), (.int .i64 atv), (.int .i64 byv), (.slice na nn nc), (.pointer (some ⟨g5, 0, none⟩)), u6, u7, u8, u9, u10, u11, u12, u13, u14, u15, u16, u17, u18, u19, u20, u21, u22, u23, u24, u25, u26, u27, u28, u29, u30, u31, u32, u33, u34, u35, u36, u37, u38, u39, u40, u41, u42, u43, u44, u45, u46, u47, u48, u49, u50, u51, u52, u53, u54, u55, u56, u57, u58, u59, u60, u61, u62, u63, u64, u65, u66, u67, u68, u69, u70, u71, u72, u73, u74, u75, u76, u77, u78, u79, u80, u81, u82, u83, u84, u85, u86, u87, u88, u89, u90, u91, u92, u93, u94, u95, u96, u97, u98, u99, u100, u101, u102, u103, u104, u105, u106, u107, u108, u109, u110, u111, u112, u113, u114, u115, u116, u117, u118, u119, u120, u121, u122, u123, u124, u125, u126, u127, u128, u129, u130, u131, u132, u133, u134, u135, u136, u137, u138, u139, u140, u141, u142, u143, u144, u145, u146, u147, u148, u149, u150, u151, u152, u153, u154, u155, u156, u157, u158, u159, u160, u161, u162, u163, u164, u165, u166, u167, u168, u169, u170, u171, u172, u173, u174, u175, u176, u177, u178, u179, u180, u181, u182, u183, u184, u185, u186, u187, u188, u189, u190, u191, u192, u193, u194, u195, u196, u197, u198, u199, u200, u201, u202, u203, u204, u205, u206, u207, u208, u209, u210, u211, u212, u213, u214, u215, u216, u217, u218, u219, u220, u221, u222, u223, u224, u225, u226, u227, u228, u229, u230], []⟩ w := by
  rw [slrest1_eq]
  have c15 := hs.job.at_ 15 (.slice a n c) rfl
  have HS := hidMk hs
  have HT := hidMk htun
  have HJ := hidMk hjob
  have hnm := hs.nm
  have hsm := hs.sm
  clear hs htun hjob
  by_cases h20 : 20 < n
  · unfold QSL
    go_wp2_with (go_at_call 5; refine (HT.out.1 _).mono ?_; rintro e w2 ⟨rfl, hb⟩)
    go_ret
    exact ⟨rfl, HS.out.b0.trans (hb.mono HS.out.b0.size)⟩
  · by_cases hs20 : 20 < sn
    · unfold QSL
      go_wp2_with (go_at_call 5; refine (HT.out.1 _).mono ?_; rintro e w2 ⟨rfl, hb⟩)
      go_ret
      exact ⟨rfl, HS.out.b0.trans (hb.mono HS.out.b0.size)⟩
    · go_wp2_with fail
      exact slpart2 HT.out HJ.out HS.out (by omega) (by omega)
set_option maxHeartbeats 1000000 in
set_option maxRecDepth 100000 in
theorem strokes_law_any (hjob : JobOK) (htun : TunF) (J : Jb) (a : Option Addr) (n c : Nat) (sa : Option Addr) (sn sc : Nat) (sl : List Int) (atv byv : Int) (na : Option Addr) (nn nc : Nat) (nl : List Int) (w : World)
    (hn : n = J.sh.length) (hm : n ≤ 9223372036854775807) (h : Rg w w.heap.size a J.sh) (hsn : sn = sl.length ∧ sn ≤ 9223372036854775807) (hsl : Is w w.heap.size sa sl) (hat : -9223372036854775808 ≤ atv ∧ atv ≤ 9223372036854775807) (hnn : nn = nl.length ∧ nn ≤ 9223372036854775807) (hnl : Is w w.heap.size na nl) :
    Calls Try.prog 4 #[.agg (jobC J (.slice a n c)), .slice sa sn sc, .int .i64 atv, .int .i64 byv, .slice na nn nc] w fun e w' => e = .returned (.bool true) ∧ Below w.heap.size w w' := by
  have hW : Below w.heap.size w (w.alloc (.cells (jobC J (.slice a n c)) 30)) := (Below.refl _ _).alloc (Nat.le_refl _) _
  have HS : Hid (S0 w (w.alloc (.cells (jobC J (.slice a n c)) 30)) w.heap.size J a n c sa sn sl atv na nn nl) :=
    ⟨hW, Bk.new _ _ _, h.up hW, hn, hm, hsl.up hW, hsn.1, hsn.2, hat, hnl.up hW, hnn⟩
  have HJ := hidMk hjob
  have HT := hidMk htun
  clear hn hm h hsn hsl hat hnn hnl hW hjob htun
  go_enter Try.func4, Try.ntmps4
  show Code.wp Try.prog slbody (QSL w) _ _
  rw [slbody_eq]
  go_wp2_with fail
  exact slpart1 HT.out HJ.out HS.out
end Go.Proofs.Ytdficjnnlaicpaa
