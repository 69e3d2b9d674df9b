/- Part 25 of the proof: TrueP4, TrueA. -/
import Derived.Test.YtggokdmlijipjaaT24
/- The law ReedTrue: region 4. -/
namespace Go.Proofs.Ytggokdmlijipjaa
set_option linter.all false
open Go.RowKit
set_option maxHeartbeats 4000000 in
set_option maxRecDepth 1000000 in
theorem part4 {w0 w3 : World} {b g4 : Nat} {J : Jb} {ja : Option Addr} {jn jc : Nat} {la : Option Addr} {ln lc : Nat} {l : List Int} {u0 u1 u6 u7 u8 u9 u10 u11 u12 u13 u14 u15 u16 u17 u18 u19 u20 u21 u22 u23 u24 u25 u26 u27 u28 u29 u30 u31 u32 u33 u34 u35 u36 u37 u38 u39 u40 u41 u42 u43 u44 u45 u46 u47 u48 u49 u50 u51 u52 u53 u54 u55 u56 u57 u58 u59 u60 u61 u62 u63 u64 u65 u66 u67 u68 u69 u70 u71 u72 u73 u74 u75 u76 u77 u78 u79 u80 u81 u82 u83 u84 u85 u86 u87 u88 u89 u90 u91 u92 u93 u94 u95 u96 u97 u98 u99 u100 u101 u102 u103 u104 u105 u106 u107 u108 u109 u110 u111 u112 u113 u114 u115 u116 u117 u118 u119 u120 u121 u122 u123 u124 u125 u126 u127 u128 u129 u130 u131 u132 u133 u134 u135 u136 u137 u138 u139 u140 u141 u142 u143 u144 u145 u146 u147 u148 u149 u150 u151 u152 u153 u154 u155 u156 u157 u158 u159 u160 u161 u162 u163 u164 u165 u166 u167 u168 u169 u170 u171 u172 u173 u174 u175 u176 u177 u178 u179 u180 u181 u182 u183 u184 u185 u186 u187 u188 u189 u190 u191 u192 u193 u194 u195 u196 u197 u198 u199 u200 u201 u202 u203 u204 : Value} (hfine : FineOK) (htun : TunOK) (h3 : L3 w0 w3 b g4 J ja jn jc la ln l) : Code.wp Try.prog rest4 (QL w0) ⟨#[u0, u1, (.bool false), (.pointer (some ⟨b, 0, none⟩)), (.pointer (some ⟨g4, 0, none⟩)), (.slice la ln lc), u6, u7, u8, u9, u10, u11, u12, u13, u14, u15, u16, u17, u18, u19, u20, u21, u22, u23, u24, u25, u26, u27, u28, u29, u30, u31, u32, u33, u34, u35, u36, u37, u38, u39, u40, u41, u42, u43, u44, u45, u46, u47, u48, u49, u50, u51, u52, u53, u54, u55, u56, u57, u58, u59, u60, u61, u62, u63, u64, u65, u66, u67, u68, u69, u70, u71, u72, u73, u74, u75, u76, u77, u78, u79, u80, u81, u82, u83, u84, u85, u86, u87, u88, u89, u90, u91, u92, u93, u94, u95, u96, u97, u98, u99, u100, u101, u102, u103, u104, u105, u106, u107, u108, u109, u110, u111, u112, u113, u114, u115, u116, u117, u118, u119, u120, u121, u122, u123, u124, u125, u126, u127, u128, u129, u130, u131, u132, u133, u134, u135, u136, u137, u138, u139, u140, u141, u142, u143, u144, u145, u146, u147, u148, u149, u150, u151, u152, u153, u154, u155, u156, u157, u158, u159, u160, u161, u162, u163, u164, u165, u166, u167, u168, u169, u170, u171, u172, u173, u174, u175, u176, u177, u178, u179, u180, u181, u182, u183, u184, u185, u186, u187, u188, u189, u190, u191, u192, u193, u194, u195, u196, u197, u198, u199, u200, u201, u202, u203, u204], []⟩ w3 := by
  have hok := check_ok h3.ck
  have hltb := h3.pt.lt
  have hlt4 := h3.job.lt
  have hne4 := h3.ne
  rw [rest4_eq]
  refine wp_seq_k fun K hKK => ?_
  refine region_via (R := fun a e a' w' => e = .normal ∧ ∃ (x : Fd) (shl : List Int) (sa : Option Addr) (sn sc g6 : Nat), a' = ((((((((a.put (some 27) (.pointer (some ⟨b, 0, none⟩))).put (some 28) (.agg (jobC J (.slice ja jn jc)))).put (some 29) (fdV x)).put (some 30) (.pointer (some ⟨b, 0, none⟩))).put (some 31) (.agg (jobC J (.slice ja jn jc)))).put (some 32) (.slice sa sn sc)).put (some 6) (.pointer (some ⟨g6, 0, none⟩))).put (some 7) (.slice sa sn sc)) ∧ J.tg.has x ∧ Ins shl (conds J.sh) ∧ sn = shl.length ∧ LS w3 b g6 x sa shl w') ?_ ?_
  rotate_left
  · rintro e a' w' ⟨rfl, x, shl, sa, sn, sc, g6, rfl, hx, hin, hsn, hs⟩
    refine hKK _ _ ?_
    simp only [Act.put, List.setIfInBounds_toArray, List.set_cons_zero, List.set_cons_succ]
    exact part5 hfine htun h3 hs hin hsn hx
  refine wp_region_held_drew (S := fun w' => Bk w' g4 33 (jobC J (.slice ja jn jc))) (by kernel_rfl) h3.job.drew (fun hS0 => ?_)
  have hjd : Bk w3.drew g4 33 (jobC J (.slice ja jn jc)) := h3.job.drew
  have hpd : Pt w3.drew b := h3.pt.drew
  have hfd : PB b w3.heap.size w3 w3.drew := PB.of (Below.refl w3.heap.size w3).drew
  have hzd : w3.heap.size ≤ w3.drew.heap.size := Nat.le_refl _
  generalize hWd : w3.drew = wd at hS0 hjd hpd hfd hzd ⊢
  clear hWd
  refine wpAnyH_take (i := 0) (oi := { dst := some 27, op := Go.Op.move (Go.Operand.tmp 3), type := 23, pos := "outright.go:125", after := #[], guard := none }) (v := ?_) rfl (by kernel_rfl) (by kernel_rfl) (by kernel_rfl) (fun _ _ _ h => nomatch h.1) (.inl ⟨by rfl, ?_⟩) (by assumption) ?_
  rotate_left
  · (intro w' hSw; (try dsimp only at hSw); skip; go_simp <;> with_reducible rfl)
  (try simp only [Act.put, List.setIfInBounds_toArray, List.set_cons_zero, List.set_cons_succ])
  refine wpAnyH_take (i := 1) (oi := { dst := some 28, op := Go.Op.load 33 (Go.Operand.tmp 4), type := 33, pos := "outright.go:125", after := #[], guard := none }) rfl (by kernel_rfl) (by kernel_rfl) (by kernel_rfl) (fun _ _ _ h => nomatch h.1) (yields_row (by rfl) 33 _ rfl g4 (jobC J (.slice ja jn jc)) rfl 33 (fun w hw => hw) Try.underlying33 szJob) (by assumption) ?_
  (try simp only [Act.put, List.setIfInBounds_toArray, List.set_cons_zero, List.set_cons_succ])
  refine wpAnyH_take (i := 3) (oi := { dst := some 30, op := Go.Op.move (Go.Operand.tmp 3), type := 23, pos := "outright.go:125", after := #[], guard := none }) (v := ?_) rfl (by kernel_rfl) (by kernel_rfl) (by kernel_rfl) (fun _ _ _ h => nomatch h.1) (.inl ⟨by rfl, ?_⟩) (by assumption) ?_
  rotate_left
  · (intro w' hSw; (try dsimp only at hSw); skip; go_simp <;> with_reducible rfl)
  (try simp only [Act.put, List.setIfInBounds_toArray, List.set_cons_zero, List.set_cons_succ])
  refine wpAnyH_take (i := 4) (oi := { dst := some 31, op := Go.Op.load 33 (Go.Operand.tmp 4), type := 33, pos := "outright.go:125", after := #[], guard := none }) rfl (by kernel_rfl) (by kernel_rfl) (by kernel_rfl) (fun _ _ _ h => nomatch h.1) (yields_row (by rfl) 33 _ rfl g4 (jobC J (.slice ja jn jc)) rfl 33 (fun w hw => hw) Try.underlying33 szJob) (by assumption) ?_
  (try simp only [Act.put, List.setIfInBounds_toArray, List.set_cons_zero, List.set_cons_succ])
  refine wpAnyH_ready (rs := [2, 6]) (by kernel_rfl) (by simp) ?_
  refine AllReadyH.cons (o := { dst := some 29, op := Go.Op.call { callee := Go.Callee.value (Go.Operand.func 7), args := #[Go.Operand.tmp 27, Go.Operand.tmp 28], argTypes := #[23, 33] }, type := 37, pos := "outright.go:125", after := #[{ on := 0, ground := Go.Ground.data }, { on := 1, ground := Go.Ground.data }], guard := none }) rfl (fun K hK => ?_) ?_
  · go_simp
    go_at_call 7
    refine (filedOf_any b J (.slice ja jn jc) _ hpd (hok.inn.mono (by decide)) hok.p hok.t hok.r).mono ?_
    rintro e w4 ⟨x, rfl, hx, hk4, hp4⟩
    have hz4 := hk4.size
    have hj4 : Bk w4 g4 33 (jobC J (.slice ja jn jc)) := (hjd).pb hk4 ((hjd).lt) h3.ne
    have hf4 : PB b w3.heap.size w3 w4 := (hfd).trans hk4 (hfd).size
    go_wp2_with fail
    refine hK.out _ _ hj4 (fun hS4 => ?_)
    clear hK K
    (try simp only [Act.put, List.setIfInBounds_toArray, List.set_cons_zero, List.set_cons_succ])
    refine wpAnyH_ready (rs := [5, 6]) (by kernel_rfl) (by simp) ?_
    refine AllReadyH.cons (o := { dst := some 32, op := Go.Op.call { callee := Go.Callee.value (Go.Operand.func 8), args := #[Go.Operand.tmp 30, Go.Operand.tmp 31], argTypes := #[23, 33] }, type := 22, pos := "outright.go:125", after := #[{ on := 3, ground := Go.Ground.data }, { on := 4, ground := Go.Ground.data }, { on := 2, ground := Go.Ground.chain }], guard := none }) rfl (fun K hK => ?_) ?_
    · go_simp
      go_at_call 8
      refine (shifted_any b J ja jn jc _ hp4 (hok.inn.mono (by decide)) hok.s h3.ejn (h3.rg.pb h3.pt hf4)).mono ?_
      rintro e w5 ⟨sa, sn, sc, shl, rfl, hsn, hin, his, hk5, hp5⟩
      have hz5 := hk5.size
      have hj5 : Bk w5 g4 33 (jobC J (.slice ja jn jc)) := (hj4).pb hk5 ((hj4).lt) h3.ne
      have hf5 : PB b w3.heap.size w3 w5 := (hf4).trans hk5 (hf4).size
      have Hsn := hidMk hsn
      have Hin := hidMk hin
      have His := hidMk his
      clear hsn hin his
      go_wp2_with fail
      refine hK.out _ _ hj5 (fun hS5 => ?_)
      clear hK K
      (try simp only [Act.put, List.setIfInBounds_toArray, List.set_cons_zero, List.set_cons_succ])
      refine wpAnyH_ready (rs := [6]) (by kernel_rfl) (by simp) ?_
      refine AllReadyH.cons (o := { dst := some 6, op := Go.Op.alloc 37, type := 0, pos := "outright.go:125", after := #[], guard := none }) rfl (fun K hK => ?_) ?_
      · have hj6 : Bk (w5.alloc (.cells #[.int .i64 0, .int .i64 0, .int .i64 0] 37)) g4 33 (jobC J (.slice ja jn jc)) := Bk.alloc (hj5) _
        have hp6 : Pt (w5.alloc (.cells #[.int .i64 0, .int .i64 0, .int .i64 0] 37)) b := Pt.alloc (hp5) _
        have hf6 : PB b w3.heap.size w3 (w5.alloc (.cells #[.int .i64 0, .int .i64 0, .int .i64 0] 37)) := PB.alloc (hf5) (hf5).size _
        have hg6 : Bk (w5.alloc (.cells #[.int .i64 0, .int .i64 0, .int .i64 0] 37)) w5.heap.size 37 #[.int .i64 0, .int .i64 0, .int .i64 0] := Bk.new _ _ _
        have hz6 : w5.heap.size + 1 ≤ (w5.alloc (.cells #[.int .i64 0, .int .i64 0, .int .i64 0] 37)).heap.size := by simp
        have hlo6 : w3.heap.size ≤ w5.heap.size := (hf5).size
        have hi6 : Isg (w5.alloc (.cells #[.int .i64 0, .int .i64 0, .int .i64 0] 37)) w5.heap.size sa shl := Isg.alloc (His.out.isg' (Nat.le_refl _)) _
        go_simp
        refine hK.out _ _ hj6 (fun hS6 => ?_)
        generalize hW6 : w5.alloc (.cells #[.int .i64 0, .int .i64 0, .int .i64 0] 37) = w6 at hS6 hj6 hp6 hf6 hg6 hz6 hi6 ⊢
        clear hW6
        clear hK K
        (try simp only [Act.put, List.setIfInBounds_toArray, List.set_cons_zero, List.set_cons_succ])
        refine wpAnyH_ready (rs := [7]) (by kernel_rfl) (by simp) ?_
        refine AllReadyH.cons (o := { dst := none, op := Go.Op.store 37 (Go.Operand.tmp 6) (Go.Operand.tmp 29), type := 0, pos := "outright.go:125", after := #[{ on := 6, ground := Go.Ground.data }, { on := 2, ground := Go.Ground.data }, { on := 5, ground := Go.Ground.chain }, { on := 0, ground := Go.Ground.phase }, { on := 1, ground := Go.Ground.phase }, { on := 2, ground := Go.Ground.phase }, { on := 3, ground := Go.Ground.textOnly Go.Departure.lateStores }, { on := 4, ground := Go.Ground.textOnly Go.Departure.lateStores }, { on := 5, ground := Go.Ground.textOnly Go.Departure.lateStoresUnsure }, { on := 6, ground := Go.Ground.phase }], guard := none }) rfl (fun K hK => ?_) ?_
        · have hG := hg6
          have hJ7 := hj6
          have hP7 := hp6
          have hF7 : PB b w3.heap.size w3 w6 := hf6
          have d0 := hG.at_ 0 _ rfl
          have d1 := hG.at_ 1 _ rfl
          have d2 := hG.at_ 2 _ rfl
          have f0 := hG.free 0
          have f1 := hG.free 1
          have f2 := hG.free 2
          have hG' : Bk (((w6.setCell ⟨w5.heap.size, 0, none⟩ (.int .i64 x.p)).setCell ⟨w5.heap.size, 1, none⟩ (.int .i64 x.t)).setCell ⟨w5.heap.size, 2, none⟩ (.int .i64 x.r)) w5.heap.size 37 (fdC x) := ((hG.put 0 _).put 1 _).put 2 _
          have hgl := hG.lt
          have hlo : w3.heap.size ≤ w5.heap.size := hlo6
          have hgb : b ≠ w5.heap.size := by omega
          have hg4' : g4 ≠ w5.heap.size := by omega
          have hJ7' := ((hJ7.other (p := ⟨w5.heap.size, 0, none⟩) hg4' (.int .i64 x.p)).other (p := ⟨w5.heap.size, 1, none⟩) hg4' (.int .i64 x.t)).other (p := ⟨w5.heap.size, 2, none⟩) hg4' (.int .i64 x.r)
          have hP7' := ((hP7.other (p := ⟨w5.heap.size, 0, none⟩) hgb (.int .i64 x.p)).other (p := ⟨w5.heap.size, 1, none⟩) hgb (.int .i64 x.t)).other (p := ⟨w5.heap.size, 2, none⟩) hgb (.int .i64 x.r)
          have hF7' := ((hF7.setCell (p := ⟨w5.heap.size, 0, none⟩) hlo (.int .i64 x.p)).setCell (p := ⟨w5.heap.size, 1, none⟩) hlo (.int .i64 x.t)).setCell (p := ⟨w5.heap.size, 2, none⟩) hlo (.int .i64 x.r)
          have hI : Isg w6 w5.heap.size sa shl := hi6
          have hI' := ((hI.setG (p := ⟨w5.heap.size, 0, none⟩) rfl (.int .i64 x.p)).setG (p := ⟨w5.heap.size, 1, none⟩) rfl (.int .i64 x.t)).setG (p := ⟨w5.heap.size, 2, none⟩) rfl (.int .i64 x.r)
          go_simp
          refine hK.out _ _ hJ7' (fun hS7 => ?_)
          clear hK K
          (try simp only [Act.put, List.setIfInBounds_toArray, List.set_cons_zero, List.set_cons_succ])
          refine wpAnyH_ready (rs := [8]) (by kernel_rfl) (by simp) ?_
          refine AllReadyH.cons (o := { dst := some 7, op := Go.Op.assign (Go.Operand.tmp 32), type := 22, pos := "outright.go:125", after := #[{ on := 5, ground := Go.Ground.data }, { on := 7, ground := Go.Ground.chain }, { on := 0, ground := Go.Ground.phase }, { on := 1, ground := Go.Ground.phase }, { on := 2, ground := Go.Ground.phase }, { on := 3, ground := Go.Ground.phase }, { on := 4, ground := Go.Ground.phase }, { on := 5, ground := Go.Ground.phase }, { on := 6, ground := Go.Ground.phase }, { on := 7, ground := Go.Ground.phase }], guard := none }) rfl (fun K hK => ?_) ?_
          · go_simp
            refine hK.out _ _ hJ7' (fun hS8 => ?_)
            clear hK K
            (try simp only [Act.put, List.setIfInBounds_toArray, List.set_cons_zero, List.set_cons_succ])
            refine wpAnyH_done (by kernel_rfl) ?_ _
            exact ⟨rfl, x, shl, sa, sn, sc, w5.heap.size, rfl, hx, Hin.out, Hsn.out, ⟨hF7', hP7', hG', hI', hlo⟩⟩
          exact AllReadyH.nil
        exact AllReadyH.nil
      exact AllReadyH.nil
    refine AllReadyH.cons (o := { dst := some 6, op := Go.Op.alloc 37, type := 0, pos := "outright.go:125", after := #[], guard := none }) rfl (fun K hK => ?_) ?_
    · have hj6 : Bk (w4.alloc (.cells #[.int .i64 0, .int .i64 0, .int .i64 0] 37)) g4 33 (jobC J (.slice ja jn jc)) := Bk.alloc (hj4) _
      have hp6 : Pt (w4.alloc (.cells #[.int .i64 0, .int .i64 0, .int .i64 0] 37)) b := Pt.alloc (hp4) _
      have hf6 : PB b w3.heap.size w3 (w4.alloc (.cells #[.int .i64 0, .int .i64 0, .int .i64 0] 37)) := PB.alloc (hf4) (hf4).size _
      have hg6 : Bk (w4.alloc (.cells #[.int .i64 0, .int .i64 0, .int .i64 0] 37)) w4.heap.size 37 #[.int .i64 0, .int .i64 0, .int .i64 0] := Bk.new _ _ _
      have hz6 : w4.heap.size + 1 ≤ (w4.alloc (.cells #[.int .i64 0, .int .i64 0, .int .i64 0] 37)).heap.size := by simp
      have hlo6 : w3.heap.size ≤ w4.heap.size := (hf4).size
      go_simp
      refine hK.out _ _ hj6 (fun hS6 => ?_)
      generalize hW6 : w4.alloc (.cells #[.int .i64 0, .int .i64 0, .int .i64 0] 37) = w6 at hS6 hj6 hp6 hf6 hg6 hz6 ⊢
      clear hW6
      clear hK K
      (try simp only [Act.put, List.setIfInBounds_toArray, List.set_cons_zero, List.set_cons_succ])
      refine wpAnyH_ready (rs := [5]) (by kernel_rfl) (by simp) ?_
      refine AllReadyH.cons (o := { dst := some 32, op := Go.Op.call { callee := Go.Callee.value (Go.Operand.func 8), args := #[Go.Operand.tmp 30, Go.Operand.tmp 31], argTypes := #[23, 33] }, type := 22, pos := "outright.go:125", after := #[{ on := 3, ground := Go.Ground.data }, { on := 4, ground := Go.Ground.data }, { on := 2, ground := Go.Ground.chain }], guard := none }) rfl (fun K hK => ?_) ?_
      · go_simp
        go_at_call 8
        refine (shifted_any b J ja jn jc _ hp6 (hok.inn.mono (by decide)) hok.s h3.ejn (h3.rg.pb h3.pt hf6)).mono ?_
        rintro e w5 ⟨sa, sn, sc, shl, rfl, hsn, hin, his, hk5, hp5⟩
        have hz5 := hk5.size
        have hj5 : Bk w5 g4 33 (jobC J (.slice ja jn jc)) := (hj6).pb hk5 ((hj6).lt) h3.ne
        have hf5 : PB b w3.heap.size w3 w5 := (hf6).trans hk5 (hf6).size
        have hg5 : Bk w5 w4.heap.size 37 #[.int .i64 0, .int .i64 0, .int .i64 0] := (hg6).pb hk5 ((hg6).lt) (by omega)
        have Hsn := hidMk hsn
        have Hin := hidMk hin
        have His := hidMk his
        clear hsn hin his
        go_wp2_with fail
        refine hK.out _ _ hj5 (fun hS5 => ?_)
        clear hK K
        (try simp only [Act.put, List.setIfInBounds_toArray, List.set_cons_zero, List.set_cons_succ])
        refine wpAnyH_ready (rs := [7]) (by kernel_rfl) (by simp) ?_
        refine AllReadyH.cons (o := { dst := none, op := Go.Op.store 37 (Go.Operand.tmp 6) (Go.Operand.tmp 29), type := 0, pos := "outright.go:125", after := #[{ on := 6, ground := Go.Ground.data }, { on := 2, ground := Go.Ground.data }, { on := 5, ground := Go.Ground.chain }, { on := 0, ground := Go.Ground.phase }, { on := 1, ground := Go.Ground.phase }, { on := 2, ground := Go.Ground.phase }, { on := 3, ground := Go.Ground.textOnly Go.Departure.lateStores }, { on := 4, ground := Go.Ground.textOnly Go.Departure.lateStores }, { on := 5, ground := Go.Ground.textOnly Go.Departure.lateStoresUnsure }, { on := 6, ground := Go.Ground.phase }], guard := none }) rfl (fun K hK => ?_) ?_
        · have hG := hg5
          have hJ7 := hj5
          have hP7 := hp5
          have hF7 : PB b w3.heap.size w3 w5 := hf5
          have d0 := hG.at_ 0 _ rfl
          have d1 := hG.at_ 1 _ rfl
          have d2 := hG.at_ 2 _ rfl
          have f0 := hG.free 0
          have f1 := hG.free 1
          have f2 := hG.free 2
          have hG' : Bk (((w5.setCell ⟨w4.heap.size, 0, none⟩ (.int .i64 x.p)).setCell ⟨w4.heap.size, 1, none⟩ (.int .i64 x.t)).setCell ⟨w4.heap.size, 2, none⟩ (.int .i64 x.r)) w4.heap.size 37 (fdC x) := ((hG.put 0 _).put 1 _).put 2 _
          have hgl := hG.lt
          have hlo : w3.heap.size ≤ w4.heap.size := hlo6
          have hgb : b ≠ w4.heap.size := by omega
          have hg4' : g4 ≠ w4.heap.size := by omega
          have hJ7' := ((hJ7.other (p := ⟨w4.heap.size, 0, none⟩) hg4' (.int .i64 x.p)).other (p := ⟨w4.heap.size, 1, none⟩) hg4' (.int .i64 x.t)).other (p := ⟨w4.heap.size, 2, none⟩) hg4' (.int .i64 x.r)
          have hP7' := ((hP7.other (p := ⟨w4.heap.size, 0, none⟩) hgb (.int .i64 x.p)).other (p := ⟨w4.heap.size, 1, none⟩) hgb (.int .i64 x.t)).other (p := ⟨w4.heap.size, 2, none⟩) hgb (.int .i64 x.r)
          have hF7' := ((hF7.setCell (p := ⟨w4.heap.size, 0, none⟩) hlo (.int .i64 x.p)).setCell (p := ⟨w4.heap.size, 1, none⟩) hlo (.int .i64 x.t)).setCell (p := ⟨w4.heap.size, 2, none⟩) hlo (.int .i64 x.r)
          have hI : Isg w5 w4.heap.size sa shl := His.out.isg (by omega)
          have hI' := ((hI.setG (p := ⟨w4.heap.size, 0, none⟩) rfl (.int .i64 x.p)).setG (p := ⟨w4.heap.size, 1, none⟩) rfl (.int .i64 x.t)).setG (p := ⟨w4.heap.size, 2, none⟩) rfl (.int .i64 x.r)
          go_simp
          refine hK.out _ _ hJ7' (fun hS7 => ?_)
          clear hK K
          (try simp only [Act.put, List.setIfInBounds_toArray, List.set_cons_zero, List.set_cons_succ])
          refine wpAnyH_ready (rs := [8]) (by kernel_rfl) (by simp) ?_
          refine AllReadyH.cons (o := { dst := some 7, op := Go.Op.assign (Go.Operand.tmp 32), type := 22, pos := "outright.go:125", after := #[{ on := 5, ground := Go.Ground.data }, { on := 7, ground := Go.Ground.chain }, { on := 0, ground := Go.Ground.phase }, { on := 1, ground := Go.Ground.phase }, { on := 2, ground := Go.Ground.phase }, { on := 3, ground := Go.Ground.phase }, { on := 4, ground := Go.Ground.phase }, { on := 5, ground := Go.Ground.phase }, { on := 6, ground := Go.Ground.phase }, { on := 7, ground := Go.Ground.phase }], guard := none }) rfl (fun K hK => ?_) ?_
          · go_simp
            refine hK.out _ _ hJ7' (fun hS8 => ?_)
            clear hK K
            (try simp only [Act.put, List.setIfInBounds_toArray, List.set_cons_zero, List.set_cons_succ])
            refine wpAnyH_done (by kernel_rfl) ?_ _
            exact ⟨rfl, x, shl, sa, sn, sc, w4.heap.size, rfl, hx, Hin.out, Hsn.out, ⟨hF7', hP7', hG', hI', hlo⟩⟩
          exact AllReadyH.nil
        exact AllReadyH.nil
      exact AllReadyH.nil
    exact AllReadyH.nil
  refine AllReadyH.cons (o := { dst := some 6, op := Go.Op.alloc 37, type := 0, pos := "outright.go:125", after := #[], guard := none }) rfl (fun K hK => ?_) ?_
  · have hj6 : Bk (wd.alloc (.cells #[.int .i64 0, .int .i64 0, .int .i64 0] 37)) g4 33 (jobC J (.slice ja jn jc)) := Bk.alloc (hjd) _
    have hp6 : Pt (wd.alloc (.cells #[.int .i64 0, .int .i64 0, .int .i64 0] 37)) b := Pt.alloc (hpd) _
    have hf6 : PB b w3.heap.size w3 (wd.alloc (.cells #[.int .i64 0, .int .i64 0, .int .i64 0] 37)) := PB.alloc (hfd) (hfd).size _
    have hg6 : Bk (wd.alloc (.cells #[.int .i64 0, .int .i64 0, .int .i64 0] 37)) wd.heap.size 37 #[.int .i64 0, .int .i64 0, .int .i64 0] := Bk.new _ _ _
    have hz6 : wd.heap.size + 1 ≤ (wd.alloc (.cells #[.int .i64 0, .int .i64 0, .int .i64 0] 37)).heap.size := by simp
    have hlo6 : w3.heap.size ≤ wd.heap.size := (hfd).size
    go_simp
    refine hK.out _ _ hj6 (fun hS6 => ?_)
    generalize hW6 : wd.alloc (.cells #[.int .i64 0, .int .i64 0, .int .i64 0] 37) = w6 at hS6 hj6 hp6 hf6 hg6 hz6 ⊢
    clear hW6
    clear hK K
    (try simp only [Act.put, List.setIfInBounds_toArray, List.set_cons_zero, List.set_cons_succ])
    refine wpAnyH_ready (rs := [2]) (by kernel_rfl) (by simp) ?_
    refine AllReadyH.cons (o := { dst := some 29, op := Go.Op.call { callee := Go.Callee.value (Go.Operand.func 7), args := #[Go.Operand.tmp 27, Go.Operand.tmp 28], argTypes := #[23, 33] }, type := 37, pos := "outright.go:125", after := #[{ on := 0, ground := Go.Ground.data }, { on := 1, ground := Go.Ground.data }], guard := none }) rfl (fun K hK => ?_) ?_
    · go_simp
      go_at_call 7
      refine (filedOf_any b J (.slice ja jn jc) _ hp6 (hok.inn.mono (by decide)) hok.p hok.t hok.r).mono ?_
      rintro e w4 ⟨x, rfl, hx, hk4, hp4⟩
      have hz4 := hk4.size
      have hj4 : Bk w4 g4 33 (jobC J (.slice ja jn jc)) := (hj6).pb hk4 ((hj6).lt) h3.ne
      have hf4 : PB b w3.heap.size w3 w4 := (hf6).trans hk4 (hf6).size
      have hg4 : Bk w4 wd.heap.size 37 #[.int .i64 0, .int .i64 0, .int .i64 0] := (hg6).pb hk4 ((hg6).lt) (by omega)
      go_wp2_with fail
      refine hK.out _ _ hj4 (fun hS4 => ?_)
      clear hK K
      (try simp only [Act.put, List.setIfInBounds_toArray, List.set_cons_zero, List.set_cons_succ])
      refine wpAnyH_ready (rs := [5]) (by kernel_rfl) (by simp) ?_
      refine AllReadyH.cons (o := { dst := some 32, op := Go.Op.call { callee := Go.Callee.value (Go.Operand.func 8), args := #[Go.Operand.tmp 30, Go.Operand.tmp 31], argTypes := #[23, 33] }, type := 22, pos := "outright.go:125", after := #[{ on := 3, ground := Go.Ground.data }, { on := 4, ground := Go.Ground.data }, { on := 2, ground := Go.Ground.chain }], guard := none }) rfl (fun K hK => ?_) ?_
      · go_simp
        go_at_call 8
        refine (shifted_any b J ja jn jc _ hp4 (hok.inn.mono (by decide)) hok.s h3.ejn (h3.rg.pb h3.pt hf4)).mono ?_
        rintro e w5 ⟨sa, sn, sc, shl, rfl, hsn, hin, his, hk5, hp5⟩
        have hz5 := hk5.size
        have hj5 : Bk w5 g4 33 (jobC J (.slice ja jn jc)) := (hj4).pb hk5 ((hj4).lt) h3.ne
        have hf5 : PB b w3.heap.size w3 w5 := (hf4).trans hk5 (hf4).size
        have hg5 : Bk w5 wd.heap.size 37 #[.int .i64 0, .int .i64 0, .int .i64 0] := (hg4).pb hk5 ((hg4).lt) (by omega)
        have Hsn := hidMk hsn
        have Hin := hidMk hin
        have His := hidMk his
        clear hsn hin his
        go_wp2_with fail
        refine hK.out _ _ hj5 (fun hS5 => ?_)
        clear hK K
        (try simp only [Act.put, List.setIfInBounds_toArray, List.set_cons_zero, List.set_cons_succ])
        refine wpAnyH_ready (rs := [7]) (by kernel_rfl) (by simp) ?_
        refine AllReadyH.cons (o := { dst := none, op := Go.Op.store 37 (Go.Operand.tmp 6) (Go.Operand.tmp 29), type := 0, pos := "outright.go:125", after := #[{ on := 6, ground := Go.Ground.data }, { on := 2, ground := Go.Ground.data }, { on := 5, ground := Go.Ground.chain }, { on := 0, ground := Go.Ground.phase }, { on := 1, ground := Go.Ground.phase }, { on := 2, ground := Go.Ground.phase }, { on := 3, ground := Go.Ground.textOnly Go.Departure.lateStores }, { on := 4, ground := Go.Ground.textOnly Go.Departure.lateStores }, { on := 5, ground := Go.Ground.textOnly Go.Departure.lateStoresUnsure }, { on := 6, ground := Go.Ground.phase }], guard := none }) rfl (fun K hK => ?_) ?_
        · have hG := hg5
          have hJ7 := hj5
          have hP7 := hp5
          have hF7 : PB b w3.heap.size w3 w5 := hf5
          have d0 := hG.at_ 0 _ rfl
          have d1 := hG.at_ 1 _ rfl
          have d2 := hG.at_ 2 _ rfl
          have f0 := hG.free 0
          have f1 := hG.free 1
          have f2 := hG.free 2
          have hG' : Bk (((w5.setCell ⟨wd.heap.size, 0, none⟩ (.int .i64 x.p)).setCell ⟨wd.heap.size, 1, none⟩ (.int .i64 x.t)).setCell ⟨wd.heap.size, 2, none⟩ (.int .i64 x.r)) wd.heap.size 37 (fdC x) := ((hG.put 0 _).put 1 _).put 2 _
          have hgl := hG.lt
          have hlo : w3.heap.size ≤ wd.heap.size := hlo6
          have hgb : b ≠ wd.heap.size := by omega
          have hg4' : g4 ≠ wd.heap.size := by omega
          have hJ7' := ((hJ7.other (p := ⟨wd.heap.size, 0, none⟩) hg4' (.int .i64 x.p)).other (p := ⟨wd.heap.size, 1, none⟩) hg4' (.int .i64 x.t)).other (p := ⟨wd.heap.size, 2, none⟩) hg4' (.int .i64 x.r)
          have hP7' := ((hP7.other (p := ⟨wd.heap.size, 0, none⟩) hgb (.int .i64 x.p)).other (p := ⟨wd.heap.size, 1, none⟩) hgb (.int .i64 x.t)).other (p := ⟨wd.heap.size, 2, none⟩) hgb (.int .i64 x.r)
          have hF7' := ((hF7.setCell (p := ⟨wd.heap.size, 0, none⟩) hlo (.int .i64 x.p)).setCell (p := ⟨wd.heap.size, 1, none⟩) hlo (.int .i64 x.t)).setCell (p := ⟨wd.heap.size, 2, none⟩) hlo (.int .i64 x.r)
          have hI : Isg w5 wd.heap.size sa shl := His.out.isg (by omega)
          have hI' := ((hI.setG (p := ⟨wd.heap.size, 0, none⟩) rfl (.int .i64 x.p)).setG (p := ⟨wd.heap.size, 1, none⟩) rfl (.int .i64 x.t)).setG (p := ⟨wd.heap.size, 2, none⟩) rfl (.int .i64 x.r)
          go_simp
          refine hK.out _ _ hJ7' (fun hS7 => ?_)
          clear hK K
          (try simp only [Act.put, List.setIfInBounds_toArray, List.set_cons_zero, List.set_cons_succ])
          refine wpAnyH_ready (rs := [8]) (by kernel_rfl) (by simp) ?_
          refine AllReadyH.cons (o := { dst := some 7, op := Go.Op.assign (Go.Operand.tmp 32), type := 22, pos := "outright.go:125", after := #[{ on := 5, ground := Go.Ground.data }, { on := 7, ground := Go.Ground.chain }, { on := 0, ground := Go.Ground.phase }, { on := 1, ground := Go.Ground.phase }, { on := 2, ground := Go.Ground.phase }, { on := 3, ground := Go.Ground.phase }, { on := 4, ground := Go.Ground.phase }, { on := 5, ground := Go.Ground.phase }, { on := 6, ground := Go.Ground.phase }, { on := 7, ground := Go.Ground.phase }], guard := none }) rfl (fun K hK => ?_) ?_
          · go_simp
            refine hK.out _ _ hJ7' (fun hS8 => ?_)
            clear hK K
            (try simp only [Act.put, List.setIfInBounds_toArray, List.set_cons_zero, List.set_cons_succ])
            refine wpAnyH_done (by kernel_rfl) ?_ _
            exact ⟨rfl, x, shl, sa, sn, sc, wd.heap.size, rfl, hx, Hin.out, Hsn.out, ⟨hF7', hP7', hG', hI', hlo⟩⟩
          exact AllReadyH.nil
        exact AllReadyH.nil
      exact AllReadyH.nil
    exact AllReadyH.nil
  exact AllReadyH.nil
end Go.Proofs.Ytggokdmlijipjaa
/- The law ReedTrue: its beginning. -/
namespace Go.Proofs.Ytggokdmlijipjaa
set_option linter.all false
open Go.RowKit
set_option maxHeartbeats 4000000 in
set_option maxRecDepth 1000000 in
theorem law_any (hjob : ∀ (b : Nat) (w : World), Pt w b → Calls Try.prog 5 #[.pointer (some ⟨b, 0, none⟩), .int .i64 9, .int .i64 4] w (JobP9 b w))
    (hfine : FineOK) (htun : TunOK)
    (a : Option Addr) (n c : Nat) (l : List Int) (w : World) (hn : n = l.length) (hm : n ≤ 9223372036854775807) (h : Is w w.heap.size a l) :
    Calls Try.prog 3 #[.slice a n c] w fun e w' => e = .returned (.bool true) ∧ Below w.heap.size w w' := by
  have Hjob := hidMk hjob
  have Htun := hidMk htun
  have Hfine := hidMk hfine
  have Hh := hidMk h
  have Hn := hidMk hn
  clear hjob htun h hn hfine
  go_enter Try.func3, Try.ntmps3
  show Code.wp Try.prog bodyT (QL w) _ _
  rw [body_eq]
  go_wp2_with fail
  refine (newPot_any a n c l _ Hn.out hm Hh.out).mono ?_
  rintro e w1 ⟨s, t, rfl, hb, hB1⟩
  have hp1 : Pt w1 w.heap.size := ⟨_, _, hb⟩
  have hz1 := hB1.size
  clear hb Hn Hh
  go_wp2_with fail
  refine (Hjob.out _ _ hp1).mono ?_
  rintro e w2 ⟨J, ja, jn, jc, rfl, hjn, hrg, hck, hk2, hp2⟩
  have Hrg := hidMk hrg
  have Hck := hidMk hck
  have Hjn := hidMk hjn
  have hz2 := hk2.size
  have hlt2 := hp2.lt
  clear hrg hck hjn
  go_wp2_with (first | (refine wpList_store_row rfl 33 _ _ rfl w2.heap.size (jobC J (.slice ja jn jc)) rfl rfl _ _ (Bk.new _ _ _) szJob rfl (oneJob _ _ _ _) ?_; rw [World.setRow_alloc_new]))
  refine (strokesOf_any w.heap.size _ (hp2.alloc _)).mono ?_
  rintro e w3 ⟨la, ln, lc, l', rfl, hln, hl6, hl12, hls, hk3, hp3⟩
  have hz3 := hk3.size
  simp only [World.size_alloc] at hz3
  have H3 : L3 w w3 w.heap.size w2.heap.size J ja jn jc la ln l' :=
    ⟨(hB1.trans ((hk2.mono hz1).toBelow (Nat.le_refl _))).trans (((((PB.refl w.heap.size w2.heap.size w2).alloc (Nat.le_refl _) (.cells (jobC J (.slice ja jn jc)) 33)).trans hk3 (by simp)).mono (by omega)).toBelow (Nat.le_refl _)),
      Nat.le_refl _, hp3, (Bk.new w2 _ _).pb hk3 (by simp) (by omega), by omega, (Hrg.out.up ((Below.refl _ _).alloc (Nat.le_refl _) _)).pb (hp2.alloc _) hk3, Hjn.out, Hck.out, hls, hln, hl6, hl12⟩
  have HH3 := hidMk H3
  clear H3 hls hl12 hl6 hln hk3 hp3 hk2 hp2 hB1 hp1
  go_wp2_with fail
  exact part4 Hfine.out Htun.out HH3.out
end Go.Proofs.Ytggokdmlijipjaa
