/- Part 24 of the proof: TrueP6, TrueP5. -/
import Derived.Test.YtggokdmlijipjaaT23
/- The law ReedTrue: region 6. -/
namespace Go.Proofs.Ytggokdmlijipjaa
set_option linter.all false
open Go.RowKit
set_option maxHeartbeats 4000000 in
set_option maxRecDepth 1000000 in
theorem part6 {w0 w3 : World} {b g4 : Nat} {J : Jb} {ja : Option Addr} {jn jc : Nat} {la : Option Addr} {ln lc : Nat} {l : List Int} {g6 : Nat} {x : Fd} {sa : Option Addr} {sn sc : Nat} {shl : List Int} {w : World} {u0 u1 u10 u11 u12 u13 u14 u15 u16 u17 u18 u19 u20 u21 u22 u23 u24 u25 u26 u27 u28 u29 u30 u31 u32 u33 u34 u35 u36 u37 u38 u39 u40 u41 u42 u43 u44 u45 u46 u47 u48 u49 u50 u51 u52 u53 u54 u55 u56 u57 u58 u59 u60 u61 u62 u63 u64 u65 u66 u67 u68 u69 u70 u71 u72 u73 u74 u75 u76 u77 u78 u79 u80 u81 u82 u83 u84 u85 u86 u87 u88 u89 u90 u91 u92 u93 u94 u95 u96 u97 u98 u99 u100 u101 u102 u103 u104 u105 u106 u107 u108 u109 u110 u111 u112 u113 u114 u115 u116 u117 u118 u119 u120 u121 u122 u123 u124 u125 u126 u127 u128 u129 u130 u131 u132 u133 u134 u135 u136 u137 u138 u139 u140 u141 u142 u143 u144 u145 u146 u147 u148 u149 u150 u151 u152 u153 u154 u155 u156 u157 u158 u159 u160 u161 u162 u163 u164 u165 u166 u167 u168 u169 u170 u171 u172 u173 u174 u175 u176 u177 u178 u179 u180 u181 u182 u183 u184 u185 u186 u187 u188 u189 u190 u191 u192 u193 u194 u195 u196 u197 u198 u199 u200 u201 u202 u203 u204 : Value} (hfine : FineOK) (htun : TunOK) (h3 : L3 w0 w3 b g4 J ja jn jc la ln l) (hs : LS w3 b g6 x sa shl w) (hin : Ins shl (conds J.sh)) (hsn : sn = shl.length) (hx : J.tg.has x) : Code.wp Try.prog rest6 (QL w0) ⟨#[u0, u1, (.bool false), (.pointer (some ⟨b, 0, none⟩)), (.pointer (some ⟨g4, 0, none⟩)), (.slice la ln lc), (.pointer (some ⟨g6, 0, none⟩)), (.slice sa sn sc), (.int .i64 (passI J.wi J.sh J.p1 J.p2)), (.int .i64 0), u10, u11, u12, u13, u14, u15, u16, u17, u18, u19, u20, u21, u22, u23, u24, u25, u26, u27, u28, u29, u30, u31, u32, u33, u34, u35, u36, u37, u38, u39, u40, u41, u42, u43, u44, u45, u46, u47, u48, u49, u50, u51, u52, u53, u54, u55, u56, u57, u58, u59, u60, u61, u62, u63, u64, u65, u66, u67, u68, u69, u70, u71, u72, u73, u74, u75, u76, u77, u78, u79, u80, u81, u82, u83, u84, u85, u86, u87, u88, u89, u90, u91, u92, u93, u94, u95, u96, u97, u98, u99, u100, u101, u102, u103, u104, u105, u106, u107, u108, u109, u110, u111, u112, u113, u114, u115, u116, u117, u118, u119, u120, u121, u122, u123, u124, u125, u126, u127, u128, u129, u130, u131, u132, u133, u134, u135, u136, u137, u138, u139, u140, u141, u142, u143, u144, u145, u146, u147, u148, u149, u150, u151, u152, u153, u154, u155, u156, u157, u158, u159, u160, u161, u162, u163, u164, u165, u166, u167, u168, u169, u170, u171, u172, u173, u174, u175, u176, u177, u178, u179, u180, u181, u182, u183, u184, u185, u186, u187, u188, u189, u190, u191, u192, u193, u194, u195, u196, u197, u198, u199, u200, u201, u202, u203, u204], []⟩ w := by
  have hok := check_ok h3.ck
  have HN := hidMk hsn
  clear hsn
  have hjm : jn ≤ 9223372036854775807 := by have h4 := (check_ok h3.ck).inn.len; have := h3.ejn; omega
  have hltb := h3.pt.lt
  have hlt4 := h3.job.lt
  have hne4 := h3.ne
  have hnb := hs.neb h3
  have hxp : J.p1 ≤ x.p ∧ x.p ≤ J.p2 := hx.p
  have hp1 := hok.inn.p1
  have hp2 := hok.inn.p2
  have hme := hok.inn.me
  obtain ⟨hme1, hme2⟩ := hme
  have en : IntKind.i64.wrap (-J.me) = -J.me := IntWalk.i64_in _ (by omega)
  rw [rest6_eq]
  refine wp_seq_k fun K hKK => ?_
  refine region_via (R := fun a e a' w' => e = .normal ∧ ∃ (m q1 q2 : Int) (g10 : Nat), a' = (((((((((((((((((a.put (some 39) (.agg (jobC J (.slice ja jn jc)))).put (some 40) (.pointer (some ⟨g6, 0, none⟩))).put (some 41) (.int .i64 x.p)).put (some 42) (.pointer (some ⟨b, 0, none⟩))).put (some 43) (.pointer (some ⟨g4, 17, none⟩))).put (some 44) (.int .i64 J.me)).put (some 45) (.int .i64 (-J.me))).put (some 46) (.pointer (some ⟨g4, 17, none⟩))).put (some 47) (.int .i64 J.me)).put (some 48) (.int .i64 m)).put (some 49) (.int .i64 (x.p + m))).put (some 50) (.tuple #[.agg #[.int .i64 q1, .int .i64 q2], .int .i64 0])).put (some 38) (.tuple #[.agg #[.int .i64 q1, .int .i64 q2], .int .i64 0])).put (some 51) (.agg #[.int .i64 q1, .int .i64 q2])).put (some 52) (.int .i64 0)).put (some 10) (.pointer (some ⟨g10, 0, none⟩))).put (some 11) (.int .i64 0)) ∧ LS w3 b g6 x sa shl w' ∧ Bk w' g10 26 #[.int .i64 q1, .int .i64 q2] ∧ (q1 ≤ x.p ∧ x.p ≤ q2) ∧ (J.p1 ≤ q1 ∧ q2 ≤ J.p2)) ?_ ?_
  rotate_left
  · rintro e a' w' ⟨rfl, m, q1, q2, g10, rfl, hs', hg10, hq1, hq2⟩
    refine hKK _ _ ?_
    simp only [Act.put, List.setIfInBounds_toArray, List.set_cons_zero, List.set_cons_succ]
    exact part7 hfine htun h3 hs' hin HN.out hx hg10 hq1 hq2
  refine wp_region_held_drew (S := fun w' => Bk w' g4 33 (jobC J (.slice ja jn jc)) ∧ Bk w' g6 37 (fdC x)) (by kernel_rfl) ⟨(hs.job h3).drew, hs.fd.drew⟩ (fun hS0 => ?_)
  have hsd := hs.draw
  have hltd := hsd.pt.lt
  clear hs
  generalize hWd : w.drew = wd at hS0 hsd hltd ⊢
  clear hWd
  have hfd := PB.refl b wd.heap.size wd
  refine wpAnyH_take (i := 0) (oi := { dst := some 39, op := Go.Op.load 33 (Go.Operand.tmp 4), type := 33, pos := "outright.go:127", after := #[], guard := none }) rfl (by kernel_rfl) (by kernel_rfl) (by kernel_rfl) (fun _ _ _ h => nomatch h.1) (yields_row (by rfl) 33 _ rfl g4 (jobC J (.slice ja jn jc)) rfl 33 (fun w hw => hw.1) Try.underlying33 szJob) (by assumption) ?_
  (try simp only [Act.put, List.setIfInBounds_toArray, List.set_cons_zero, List.set_cons_succ])
  refine wpAnyH_take (i := 1) (oi := { dst := some 40, op := Go.Op.fieldAddr 37 (Go.Operand.tmp 6) 0, type := 0, pos := "outright.go:127", after := #[], guard := none }) (v := ?_) rfl (by kernel_rfl) (by kernel_rfl) (by kernel_rfl) (fun _ _ _ h => nomatch h.1) (.inl ⟨by rfl, ?_⟩) (by assumption) ?_
  rotate_left
  · (intro w' hSw; (try dsimp only at hSw); (have c0 := hSw.2.at_ 0 _ rfl; have c17 := hSw.1.at_ 17 _ rfl); go_simp <;> with_reducible rfl)
  (try simp only [Act.put, List.setIfInBounds_toArray, List.set_cons_zero, List.set_cons_succ])
  refine wpAnyH_take (i := 2) (oi := { dst := some 41, op := Go.Op.load 3 (Go.Operand.tmp 40), type := 3, pos := "outright.go:127", after := #[{ on := 1, ground := Go.Ground.data }], guard := none }) (v := ?_) rfl (by kernel_rfl) (by kernel_rfl) (by kernel_rfl) (fun _ _ _ h => nomatch h.1) (.inl ⟨by rfl, ?_⟩) (by assumption) ?_
  rotate_left
  · (intro w' hSw; (try dsimp only at hSw); (have c0 := hSw.2.at_ 0 _ rfl; have c17 := hSw.1.at_ 17 _ rfl); go_simp <;> with_reducible rfl)
  (try simp only [Act.put, List.setIfInBounds_toArray, List.set_cons_zero, List.set_cons_succ])
  refine wpAnyH_take (i := 3) (oi := { dst := some 42, op := Go.Op.move (Go.Operand.tmp 3), type := 23, pos := "outright.go:127", after := #[], guard := none }) (v := ?_) rfl (by kernel_rfl) (by kernel_rfl) (by kernel_rfl) (fun _ _ _ h => nomatch h.1) (.inl ⟨by rfl, ?_⟩) (by assumption) ?_
  rotate_left
  · (intro w' hSw; (try dsimp only at hSw); (have c0 := hSw.2.at_ 0 _ rfl; have c17 := hSw.1.at_ 17 _ rfl); go_simp <;> with_reducible rfl)
  (try simp only [Act.put, List.setIfInBounds_toArray, List.set_cons_zero, List.set_cons_succ])
  refine wpAnyH_take (i := 4) (oi := { dst := some 43, op := Go.Op.fieldAddr 33 (Go.Operand.tmp 4) 4, type := 0, pos := "outright.go:127", after := #[], guard := none }) (v := ?_) rfl (by kernel_rfl) (by kernel_rfl) (by kernel_rfl) (fun _ _ _ h => nomatch h.1) (.inl ⟨by rfl, ?_⟩) (by assumption) ?_
  rotate_left
  · (intro w' hSw; (try dsimp only at hSw); (have c0 := hSw.2.at_ 0 _ rfl; have c17 := hSw.1.at_ 17 _ rfl); go_simp <;> with_reducible rfl)
  (try simp only [Act.put, List.setIfInBounds_toArray, List.set_cons_zero, List.set_cons_succ])
  refine wpAnyH_take (i := 5) (oi := { dst := some 44, op := Go.Op.load 3 (Go.Operand.tmp 43), type := 3, pos := "outright.go:127", after := #[{ on := 4, ground := Go.Ground.data }], guard := none }) (v := ?_) rfl (by kernel_rfl) (by kernel_rfl) (by kernel_rfl) (fun _ _ _ h => nomatch h.1) (.inl ⟨by rfl, ?_⟩) (by assumption) ?_
  rotate_left
  · (intro w' hSw; (try dsimp only at hSw); (have c0 := hSw.2.at_ 0 _ rfl; have c17 := hSw.1.at_ 17 _ rfl); go_simp <;> with_reducible rfl)
  (try simp only [Act.put, List.setIfInBounds_toArray, List.set_cons_zero, List.set_cons_succ])
  refine wpAnyH_take (i := 6) (oi := { dst := some 45, op := Go.Op.unOp Go.UnOp.neg 3 (Go.Operand.tmp 44), type := 3, pos := "outright.go:127", after := #[{ on := 5, ground := Go.Ground.data }], guard := none }) (v := ?_) rfl (by kernel_rfl) (by kernel_rfl) (by kernel_rfl) (fun _ _ _ h => nomatch h.1) (.inl ⟨by rfl, ?_⟩) (by assumption) ?_
  rotate_left
  · (intro w' hSw; (try dsimp only at hSw); (have c0 := hSw.2.at_ 0 _ rfl; have c17 := hSw.1.at_ 17 _ rfl); go_simp <;> with_reducible rfl)
  (try simp only [Act.put, List.setIfInBounds_toArray, List.set_cons_zero, List.set_cons_succ])
  refine wpAnyH_take (i := 7) (oi := { dst := some 46, op := Go.Op.fieldAddr 33 (Go.Operand.tmp 4) 4, type := 0, pos := "outright.go:127", after := #[], guard := none }) (v := ?_) rfl (by kernel_rfl) (by kernel_rfl) (by kernel_rfl) (fun _ _ _ h => nomatch h.1) (.inl ⟨by rfl, ?_⟩) (by assumption) ?_
  rotate_left
  · (intro w' hSw; (try dsimp only at hSw); (have c0 := hSw.2.at_ 0 _ rfl; have c17 := hSw.1.at_ 17 _ rfl); go_simp <;> with_reducible rfl)
  (try simp only [Act.put, List.setIfInBounds_toArray, List.set_cons_zero, List.set_cons_succ])
  refine wpAnyH_take (i := 8) (oi := { dst := some 47, op := Go.Op.load 3 (Go.Operand.tmp 46), type := 3, pos := "outright.go:127", after := #[{ on := 7, ground := Go.Ground.data }], guard := none }) (v := ?_) rfl (by kernel_rfl) (by kernel_rfl) (by kernel_rfl) (fun _ _ _ h => nomatch h.1) (.inl ⟨by rfl, ?_⟩) (by assumption) ?_
  rotate_left
  · (intro w' hSw; (try dsimp only at hSw); (have c0 := hSw.2.at_ 0 _ rfl; have c17 := hSw.1.at_ 17 _ rfl); go_simp <;> with_reducible rfl)
  (try simp only [Act.put, List.setIfInBounds_toArray, List.set_cons_zero, List.set_cons_succ])
  refine wpAnyH_ready (rs := [9, 15]) (by kernel_rfl) (by simp) ?_
  refine AllReadyH.cons (o := { dst := some 48, op := Go.Op.call { callee := Go.Callee.value (Go.Operand.func 11), args := #[Go.Operand.tmp 42, Go.Operand.tmp 45, Go.Operand.tmp 47], argTypes := #[23, 3, 3] }, type := 3, pos := "outright.go:127", after := #[{ on := 3, ground := Go.Ground.data }, { on := 6, ground := Go.Ground.data }, { on := 8, ground := Go.Ground.data }], guard := none }) rfl (fun K hK => ?_) ?_
  · go_simp
    go_at_call 11
    refine (withinP b (-J.me) J.me _ hsd.pt (by omega)).mono ?_
    rintro e w4 ⟨m, rfl, hm, hk4, hp4⟩
    obtain ⟨hm1, hm2⟩ := hm
    have hf4 : PB b wd.heap.size wd w4 := (hfd).trans hk4 (hfd).size
    have em : IntKind.i64.wrap (x.p + m) = x.p + m := IntWalk.i64_in _ (by omega)
    go_wp2_with fail
    refine hK.out _ _ ⟨(hsd.pot h3 hf4 hp4).job h3, (hsd.pot h3 hf4 hp4).fd⟩ (fun hS4 => ?_)
    clear hK K
    (try simp only [Act.put, List.setIfInBounds_toArray, List.set_cons_zero, List.set_cons_succ])
    refine wpAnyH_take (i := 10) (oi := { dst := some 49, op := Go.Op.binOp Go.BinOp.add 3 (Go.Operand.tmp 41) (Go.Operand.tmp 48) 3, type := 3, pos := "outright.go:127", after := #[{ on := 2, ground := Go.Ground.data }, { on := 9, ground := Go.Ground.data }], guard := none }) (v := ?_) rfl (by kernel_rfl) (by kernel_rfl) (by kernel_rfl) (fun _ _ _ h => nomatch h.1) (.inl ⟨by rfl, ?_⟩) (by assumption) ?_
    rotate_left
    · (intro w' hSw; (try dsimp only at hSw); (have c0 := hSw.2.at_ 0 _ rfl; have c17 := hSw.1.at_ 17 _ rfl); go_simp <;> with_reducible rfl)
    (try simp only [Act.put, List.setIfInBounds_toArray, List.set_cons_zero, List.set_cons_succ])
    refine wpAnyH_ready (rs := [11, 15]) (by kernel_rfl) (by simp) ?_
    refine AllReadyH.cons (o := { dst := some 50, op := Go.Op.call { callee := Go.Callee.value (Go.Operand.func 10), args := #[Go.Operand.tmp 39, Go.Operand.tmp 49], argTypes := #[33, 3] }, type := 43, pos := "outright.go:127", after := #[{ on := 0, ground := Go.Ground.data }, { on := 10, ground := Go.Ground.data }, { on := 9, ground := Go.Ground.chain }], guard := none }) rfl (fun K hK => ?_) ?_
    · go_simp
      go_at_call 10
      obtain ⟨h0, hq1, hq2⟩ := heard_has J x.p m hxp ⟨hm1, hm2⟩
      refine (hearF_ok J h3.ck (x.p + m) ja jn jc _ h3.ejn hjm ((hsd.pot h3 hf4 hp4).rg h3)).mono ?_
      rintro e w5 ⟨rfl, hb5⟩
      rw [h0]
      generalize (hearI J (x.p + m)).1.1 = q1 at hq1 hq2 ⊢
      generalize (hearI J (x.p + m)).1.2 = q2 at hq1 hq2 ⊢
      clear h0
      have hp5 : Pt w5 b := (hp4).below hb5 (hp4).lt
      have hf5 : PB b wd.heap.size wd w5 := (hf4).below hb5 (hf4).size
      go_wp2_with fail
      refine hK.out _ _ ⟨(hsd.pot h3 hf5 hp5).job h3, (hsd.pot h3 hf5 hp5).fd⟩ (fun hS5 => ?_)
      clear hK K
      (try simp only [Act.put, List.setIfInBounds_toArray, List.set_cons_zero, List.set_cons_succ])
      refine wpAnyH_take (i := 12) (oi := { dst := some 38, op := Go.Op.move (Go.Operand.tmp 50), type := 43, pos := "outright.go:127", after := #[{ on := 11, ground := Go.Ground.data }], guard := none }) (v := ?_) rfl (by kernel_rfl) (by kernel_rfl) (by kernel_rfl) (fun _ _ _ h => nomatch h.1) (.inl ⟨by rfl, ?_⟩) (by assumption) ?_
      rotate_left
      · (intro w' hSw; (try dsimp only at hSw); (have c0 := hSw.2.at_ 0 _ rfl; have c17 := hSw.1.at_ 17 _ rfl); go_simp <;> with_reducible rfl)
      (try simp only [Act.put, List.setIfInBounds_toArray, List.set_cons_zero, List.set_cons_succ])
      refine wpAnyH_take (i := 13) (oi := { dst := some 51, op := Go.Op.extract (Go.Operand.tmp 38) 0, type := 26, pos := "outright.go:127", after := #[{ on := 12, ground := Go.Ground.data }], guard := none }) (v := ?_) rfl (by kernel_rfl) (by kernel_rfl) (by kernel_rfl) (fun _ _ _ h => nomatch h.1) (.inl ⟨by rfl, ?_⟩) (by assumption) ?_
      rotate_left
      · (intro w' hSw; (try dsimp only at hSw); (have c0 := hSw.2.at_ 0 _ rfl; have c17 := hSw.1.at_ 17 _ rfl); go_simp <;> with_reducible rfl)
      (try simp only [Act.put, List.setIfInBounds_toArray, List.set_cons_zero, List.set_cons_succ])
      refine wpAnyH_take (i := 14) (oi := { dst := some 52, op := Go.Op.extract (Go.Operand.tmp 38) 1, type := 40, pos := "outright.go:127", after := #[{ on := 12, ground := Go.Ground.data }, { on := 16, ground := Go.Ground.gcOnly Go.Departure.lateStores }], guard := none }) (v := ?_) rfl (by kernel_rfl) (by kernel_rfl) (by kernel_rfl) (fun _ _ _ h => nomatch h.1) (.inl ⟨by rfl, ?_⟩) (by assumption) ?_
      rotate_left
      · (intro w' hSw; (try dsimp only at hSw); (have c0 := hSw.2.at_ 0 _ rfl; have c17 := hSw.1.at_ 17 _ rfl); go_simp <;> with_reducible rfl)
      (try simp only [Act.put, List.setIfInBounds_toArray, List.set_cons_zero, List.set_cons_succ])
      refine wpAnyH_ready (rs := [15]) (by kernel_rfl) (by simp) ?_
      refine AllReadyH.cons (o := { dst := some 10, op := Go.Op.alloc 26, type := 0, pos := "outright.go:127", after := #[], guard := none }) rfl (fun K hK => ?_) ?_
      · have hp6 : Pt (w5.alloc (.cells #[.int .i64 0, .int .i64 0] 26)) b := Pt.alloc (hp5) _
        have hf6 : PB b wd.heap.size wd (w5.alloc (.cells #[.int .i64 0, .int .i64 0] 26)) := PB.alloc (hf5) (hf5).size _
        have hg6 : Bk (w5.alloc (.cells #[.int .i64 0, .int .i64 0] 26)) w5.heap.size 26 #[.int .i64 0, .int .i64 0] := Bk.new _ _ _
        have hlo6 : wd.heap.size ≤ w5.heap.size := (hf5).size
        have hS6' := (⟨(hsd.pot h3 hf6 hp6).job h3, (hsd.pot h3 hf6 hp6).fd⟩ : Bk (w5.alloc (.cells #[.int .i64 0, .int .i64 0] 26)) g4 33 (jobC J (.slice ja jn jc)) ∧ Bk (w5.alloc (.cells #[.int .i64 0, .int .i64 0] 26)) g6 37 (fdC x))
        go_simp
        refine hK.out _ _ hS6' (fun hS6 => ?_)
        clear hS6'
        generalize hW6 : w5.alloc (.cells #[.int .i64 0, .int .i64 0] 26) = w6 at hS6 hp6 hf6 hg6 ⊢
        clear hW6
        clear hK K
        (try simp only [Act.put, List.setIfInBounds_toArray, List.set_cons_zero, List.set_cons_succ])
        refine wpAnyH_ready (rs := [16]) (by kernel_rfl) (by simp) ?_
        refine AllReadyH.cons (o := { dst := none, op := Go.Op.store 26 (Go.Operand.tmp 10) (Go.Operand.tmp 51), type := 0, pos := "outright.go:127", after := #[{ on := 15, ground := Go.Ground.data }, { on := 13, ground := Go.Ground.data }, { on := 11, ground := Go.Ground.chain }, { on := 0, ground := Go.Ground.phase }, { on := 1, ground := Go.Ground.phase }, { on := 2, ground := Go.Ground.phase }, { on := 3, ground := Go.Ground.phase }, { on := 4, ground := Go.Ground.phase }, { on := 5, ground := Go.Ground.phase }, { on := 6, ground := Go.Ground.phase }, { on := 7, ground := Go.Ground.phase }, { on := 8, ground := Go.Ground.phase }, { on := 9, ground := Go.Ground.phase }, { on := 10, ground := Go.Ground.phase }, { on := 11, ground := Go.Ground.phase }, { on := 12, ground := Go.Ground.phase }, { on := 13, ground := Go.Ground.phase }, { on := 14, ground := Go.Ground.textOnly Go.Departure.lateStores }, { on := 15, ground := Go.Ground.phase }], guard := none }) rfl (fun K hK => ?_) ?_
        · have hG := hg6
          have d0 := hG.at_ 0 _ rfl
          have d1 := hG.at_ 1 _ rfl
          have f0 := hG.free 0
          have f1 := hG.free 1
          have hG' : Bk ((w6.setCell ⟨w5.heap.size, 0, none⟩ (.int .i64 q1)).setCell ⟨w5.heap.size, 1, none⟩ (.int .i64 q2)) w5.heap.size 26 #[.int .i64 q1, .int .i64 q2] := (hG.put 0 _).put 1 _
          have hgb : b ≠ w5.heap.size := by omega
          have hP7 := ((show Pt w6 b from hp6).other (p := ⟨w5.heap.size, 0, none⟩) hgb (.int .i64 q1)).other (p := ⟨w5.heap.size, 1, none⟩) hgb (.int .i64 q2)
          have hF7 := ((show PB b wd.heap.size wd w6 from hf6).setCell (p := ⟨w5.heap.size, 0, none⟩) hlo6 (.int .i64 q1)).setCell (p := ⟨w5.heap.size, 1, none⟩) hlo6 (.int .i64 q2)
          have hS7' := (⟨(hsd.pot h3 hF7 hP7).job h3, (hsd.pot h3 hF7 hP7).fd⟩ : Bk ((w6.setCell ⟨w5.heap.size, 0, none⟩ (.int .i64 q1)).setCell ⟨w5.heap.size, 1, none⟩ (.int .i64 q2)) g4 33 (jobC J (.slice ja jn jc)) ∧ Bk ((w6.setCell ⟨w5.heap.size, 0, none⟩ (.int .i64 q1)).setCell ⟨w5.heap.size, 1, none⟩ (.int .i64 q2)) g6 37 (fdC x))
          go_simp
          refine hK.out _ _ hS7' (fun hS7 => ?_)
          clear hK K
          (try simp only [Act.put, List.setIfInBounds_toArray, List.set_cons_zero, List.set_cons_succ])
          refine wpAnyH_ready (rs := [17]) (by kernel_rfl) (by simp) ?_
          refine AllReadyH.cons (o := { dst := some 11, op := Go.Op.assign (Go.Operand.tmp 52), type := 40, pos := "outright.go:127", after := #[{ on := 14, ground := Go.Ground.data }, { on := 16, ground := Go.Ground.chain }, { on := 0, ground := Go.Ground.phase }, { on := 1, ground := Go.Ground.phase }, { on := 2, ground := Go.Ground.phase }, { on := 3, ground := Go.Ground.phase }, { on := 4, ground := Go.Ground.phase }, { on := 5, ground := Go.Ground.phase }, { on := 6, ground := Go.Ground.phase }, { on := 7, ground := Go.Ground.phase }, { on := 8, ground := Go.Ground.phase }, { on := 9, ground := Go.Ground.phase }, { on := 10, ground := Go.Ground.phase }, { on := 11, ground := Go.Ground.phase }, { on := 12, ground := Go.Ground.phase }, { on := 13, ground := Go.Ground.phase }, { on := 14, ground := Go.Ground.phase }, { on := 15, ground := Go.Ground.phase }, { on := 16, ground := Go.Ground.phase }], guard := none }) rfl (fun K hK => ?_) ?_
          · go_simp
            refine hK.out _ _ hS7' (fun hS8 => ?_)
            clear hK K
            (try simp only [Act.put, List.setIfInBounds_toArray, List.set_cons_zero, List.set_cons_succ])
            refine wpAnyH_done (by kernel_rfl) ?_ _
            exact ⟨rfl, m, q1, q2, w5.heap.size, rfl, hsd.pot h3 hF7 hP7, hG', hq1, hq2⟩
          exact AllReadyH.nil
        exact AllReadyH.nil
      exact AllReadyH.nil
    refine AllReadyH.cons (o := { dst := some 10, op := Go.Op.alloc 26, type := 0, pos := "outright.go:127", after := #[], guard := none }) rfl (fun K hK => ?_) ?_
    · have hp6 : Pt (w4.alloc (.cells #[.int .i64 0, .int .i64 0] 26)) b := Pt.alloc (hp4) _
      have hf6 : PB b wd.heap.size wd (w4.alloc (.cells #[.int .i64 0, .int .i64 0] 26)) := PB.alloc (hf4) (hf4).size _
      have hg6 : Bk (w4.alloc (.cells #[.int .i64 0, .int .i64 0] 26)) w4.heap.size 26 #[.int .i64 0, .int .i64 0] := Bk.new _ _ _
      have hlo6 : wd.heap.size ≤ w4.heap.size := (hf4).size
      have hS6' := (⟨(hsd.pot h3 hf6 hp6).job h3, (hsd.pot h3 hf6 hp6).fd⟩ : Bk (w4.alloc (.cells #[.int .i64 0, .int .i64 0] 26)) g4 33 (jobC J (.slice ja jn jc)) ∧ Bk (w4.alloc (.cells #[.int .i64 0, .int .i64 0] 26)) g6 37 (fdC x))
      go_simp
      refine hK.out _ _ hS6' (fun hS6 => ?_)
      clear hS6'
      generalize hW6 : w4.alloc (.cells #[.int .i64 0, .int .i64 0] 26) = w6 at hS6 hp6 hf6 hg6 ⊢
      clear hW6
      clear hK K
      (try simp only [Act.put, List.setIfInBounds_toArray, List.set_cons_zero, List.set_cons_succ])
      refine wpAnyH_ready (rs := [11]) (by kernel_rfl) (by simp) ?_
      refine AllReadyH.cons (o := { dst := some 50, op := Go.Op.call { callee := Go.Callee.value (Go.Operand.func 10), args := #[Go.Operand.tmp 39, Go.Operand.tmp 49], argTypes := #[33, 3] }, type := 43, pos := "outright.go:127", after := #[{ on := 0, ground := Go.Ground.data }, { on := 10, ground := Go.Ground.data }, { on := 9, ground := Go.Ground.chain }], guard := none }) rfl (fun K hK => ?_) ?_
      · go_simp
        go_at_call 10
        obtain ⟨h0, hq1, hq2⟩ := heard_has J x.p m hxp ⟨hm1, hm2⟩
        refine (hearF_ok J h3.ck (x.p + m) ja jn jc _ h3.ejn hjm ((hsd.pot h3 hf6 hp6).rg h3)).mono ?_
        rintro e w5 ⟨rfl, hb5⟩
        rw [h0]
        generalize (hearI J (x.p + m)).1.1 = q1 at hq1 hq2 ⊢
        generalize (hearI J (x.p + m)).1.2 = q2 at hq1 hq2 ⊢
        clear h0
        have hp5 : Pt w5 b := (hp6).below hb5 (hp6).lt
        have hf5 : PB b wd.heap.size wd w5 := (hf6).below hb5 (hf6).size
        have hg5 : Bk w5 w4.heap.size 26 #[.int .i64 0, .int .i64 0] := (hg6).below hb5 ((hg6).lt)
        go_wp2_with fail
        refine hK.out _ _ ⟨(hsd.pot h3 hf5 hp5).job h3, (hsd.pot h3 hf5 hp5).fd⟩ (fun hS5 => ?_)
        clear hK K
        (try simp only [Act.put, List.setIfInBounds_toArray, List.set_cons_zero, List.set_cons_succ])
        refine wpAnyH_take (i := 12) (oi := { dst := some 38, op := Go.Op.move (Go.Operand.tmp 50), type := 43, pos := "outright.go:127", after := #[{ on := 11, ground := Go.Ground.data }], guard := none }) (v := ?_) rfl (by kernel_rfl) (by kernel_rfl) (by kernel_rfl) (fun _ _ _ h => nomatch h.1) (.inl ⟨by rfl, ?_⟩) (by assumption) ?_
        rotate_left
        · (intro w' hSw; (try dsimp only at hSw); (have c0 := hSw.2.at_ 0 _ rfl; have c17 := hSw.1.at_ 17 _ rfl); go_simp <;> with_reducible rfl)
        (try simp only [Act.put, List.setIfInBounds_toArray, List.set_cons_zero, List.set_cons_succ])
        refine wpAnyH_take (i := 13) (oi := { dst := some 51, op := Go.Op.extract (Go.Operand.tmp 38) 0, type := 26, pos := "outright.go:127", after := #[{ on := 12, ground := Go.Ground.data }], guard := none }) (v := ?_) rfl (by kernel_rfl) (by kernel_rfl) (by kernel_rfl) (fun _ _ _ h => nomatch h.1) (.inl ⟨by rfl, ?_⟩) (by assumption) ?_
        rotate_left
        · (intro w' hSw; (try dsimp only at hSw); (have c0 := hSw.2.at_ 0 _ rfl; have c17 := hSw.1.at_ 17 _ rfl); go_simp <;> with_reducible rfl)
        (try simp only [Act.put, List.setIfInBounds_toArray, List.set_cons_zero, List.set_cons_succ])
        refine wpAnyH_take (i := 14) (oi := { dst := some 52, op := Go.Op.extract (Go.Operand.tmp 38) 1, type := 40, pos := "outright.go:127", after := #[{ on := 12, ground := Go.Ground.data }, { on := 16, ground := Go.Ground.gcOnly Go.Departure.lateStores }], guard := none }) (v := ?_) rfl (by kernel_rfl) (by kernel_rfl) (by kernel_rfl) (fun _ _ _ h => nomatch h.1) (.inl ⟨by rfl, ?_⟩) (by assumption) ?_
        rotate_left
        · (intro w' hSw; (try dsimp only at hSw); (have c0 := hSw.2.at_ 0 _ rfl; have c17 := hSw.1.at_ 17 _ rfl); go_simp <;> with_reducible rfl)
        (try simp only [Act.put, List.setIfInBounds_toArray, List.set_cons_zero, List.set_cons_succ])
        refine wpAnyH_ready (rs := [16]) (by kernel_rfl) (by simp) ?_
        refine AllReadyH.cons (o := { dst := none, op := Go.Op.store 26 (Go.Operand.tmp 10) (Go.Operand.tmp 51), type := 0, pos := "outright.go:127", after := #[{ on := 15, ground := Go.Ground.data }, { on := 13, ground := Go.Ground.data }, { on := 11, ground := Go.Ground.chain }, { on := 0, ground := Go.Ground.phase }, { on := 1, ground := Go.Ground.phase }, { on := 2, ground := Go.Ground.phase }, { on := 3, ground := Go.Ground.phase }, { on := 4, ground := Go.Ground.phase }, { on := 5, ground := Go.Ground.phase }, { on := 6, ground := Go.Ground.phase }, { on := 7, ground := Go.Ground.phase }, { on := 8, ground := Go.Ground.phase }, { on := 9, ground := Go.Ground.phase }, { on := 10, ground := Go.Ground.phase }, { on := 11, ground := Go.Ground.phase }, { on := 12, ground := Go.Ground.phase }, { on := 13, ground := Go.Ground.phase }, { on := 14, ground := Go.Ground.textOnly Go.Departure.lateStores }, { on := 15, ground := Go.Ground.phase }], guard := none }) rfl (fun K hK => ?_) ?_
        · have hG := hg5
          have d0 := hG.at_ 0 _ rfl
          have d1 := hG.at_ 1 _ rfl
          have f0 := hG.free 0
          have f1 := hG.free 1
          have hG' : Bk ((w5.setCell ⟨w4.heap.size, 0, none⟩ (.int .i64 q1)).setCell ⟨w4.heap.size, 1, none⟩ (.int .i64 q2)) w4.heap.size 26 #[.int .i64 q1, .int .i64 q2] := (hG.put 0 _).put 1 _
          have hgb : b ≠ w4.heap.size := by omega
          have hP7 := ((show Pt w5 b from hp5).other (p := ⟨w4.heap.size, 0, none⟩) hgb (.int .i64 q1)).other (p := ⟨w4.heap.size, 1, none⟩) hgb (.int .i64 q2)
          have hF7 := ((show PB b wd.heap.size wd w5 from hf5).setCell (p := ⟨w4.heap.size, 0, none⟩) hlo6 (.int .i64 q1)).setCell (p := ⟨w4.heap.size, 1, none⟩) hlo6 (.int .i64 q2)
          have hS7' := (⟨(hsd.pot h3 hF7 hP7).job h3, (hsd.pot h3 hF7 hP7).fd⟩ : Bk ((w5.setCell ⟨w4.heap.size, 0, none⟩ (.int .i64 q1)).setCell ⟨w4.heap.size, 1, none⟩ (.int .i64 q2)) g4 33 (jobC J (.slice ja jn jc)) ∧ Bk ((w5.setCell ⟨w4.heap.size, 0, none⟩ (.int .i64 q1)).setCell ⟨w4.heap.size, 1, none⟩ (.int .i64 q2)) g6 37 (fdC x))
          go_simp
          refine hK.out _ _ hS7' (fun hS7 => ?_)
          clear hK K
          (try simp only [Act.put, List.setIfInBounds_toArray, List.set_cons_zero, List.set_cons_succ])
          refine wpAnyH_ready (rs := [17]) (by kernel_rfl) (by simp) ?_
          refine AllReadyH.cons (o := { dst := some 11, op := Go.Op.assign (Go.Operand.tmp 52), type := 40, pos := "outright.go:127", after := #[{ on := 14, ground := Go.Ground.data }, { on := 16, ground := Go.Ground.chain }, { on := 0, ground := Go.Ground.phase }, { on := 1, ground := Go.Ground.phase }, { on := 2, ground := Go.Ground.phase }, { on := 3, ground := Go.Ground.phase }, { on := 4, ground := Go.Ground.phase }, { on := 5, ground := Go.Ground.phase }, { on := 6, ground := Go.Ground.phase }, { on := 7, ground := Go.Ground.phase }, { on := 8, ground := Go.Ground.phase }, { on := 9, ground := Go.Ground.phase }, { on := 10, ground := Go.Ground.phase }, { on := 11, ground := Go.Ground.phase }, { on := 12, ground := Go.Ground.phase }, { on := 13, ground := Go.Ground.phase }, { on := 14, ground := Go.Ground.phase }, { on := 15, ground := Go.Ground.phase }, { on := 16, ground := Go.Ground.phase }], guard := none }) rfl (fun K hK => ?_) ?_
          · go_simp
            refine hK.out _ _ hS7' (fun hS8 => ?_)
            clear hK K
            (try simp only [Act.put, List.setIfInBounds_toArray, List.set_cons_zero, List.set_cons_succ])
            refine wpAnyH_done (by kernel_rfl) ?_ _
            exact ⟨rfl, m, q1, q2, w4.heap.size, rfl, hsd.pot h3 hF7 hP7, hG', hq1, hq2⟩
          exact AllReadyH.nil
        exact AllReadyH.nil
      exact AllReadyH.nil
    exact AllReadyH.nil
  refine AllReadyH.cons (o := { dst := some 10, op := Go.Op.alloc 26, type := 0, pos := "outright.go:127", after := #[], guard := none }) rfl (fun K hK => ?_) ?_
  · have hp6 : Pt (wd.alloc (.cells #[.int .i64 0, .int .i64 0] 26)) b := Pt.alloc (hsd.pt) _
    have hf6 : PB b wd.heap.size wd (wd.alloc (.cells #[.int .i64 0, .int .i64 0] 26)) := PB.alloc (hfd) (hfd).size _
    have hg6 : Bk (wd.alloc (.cells #[.int .i64 0, .int .i64 0] 26)) wd.heap.size 26 #[.int .i64 0, .int .i64 0] := Bk.new _ _ _
    have hlo6 : wd.heap.size ≤ wd.heap.size := (hfd).size
    have hS6' := (⟨(hsd.pot h3 hf6 hp6).job h3, (hsd.pot h3 hf6 hp6).fd⟩ : Bk (wd.alloc (.cells #[.int .i64 0, .int .i64 0] 26)) g4 33 (jobC J (.slice ja jn jc)) ∧ Bk (wd.alloc (.cells #[.int .i64 0, .int .i64 0] 26)) g6 37 (fdC x))
    go_simp
    refine hK.out _ _ hS6' (fun hS6 => ?_)
    clear hS6'
    generalize hW6 : wd.alloc (.cells #[.int .i64 0, .int .i64 0] 26) = w6 at hS6 hp6 hf6 hg6 ⊢
    clear hW6
    clear hK K
    (try simp only [Act.put, List.setIfInBounds_toArray, List.set_cons_zero, List.set_cons_succ])
    refine wpAnyH_ready (rs := [9]) (by kernel_rfl) (by simp) ?_
    refine AllReadyH.cons (o := { dst := some 48, op := Go.Op.call { callee := Go.Callee.value (Go.Operand.func 11), args := #[Go.Operand.tmp 42, Go.Operand.tmp 45, Go.Operand.tmp 47], argTypes := #[23, 3, 3] }, type := 3, pos := "outright.go:127", after := #[{ on := 3, ground := Go.Ground.data }, { on := 6, ground := Go.Ground.data }, { on := 8, ground := Go.Ground.data }], guard := none }) rfl (fun K hK => ?_) ?_
    · go_simp
      go_at_call 11
      refine (withinP b (-J.me) J.me _ hp6 (by omega)).mono ?_
      rintro e w4 ⟨m, rfl, hm, hk4, hp4⟩
      obtain ⟨hm1, hm2⟩ := hm
      have hf4 : PB b wd.heap.size wd w4 := (hf6).trans hk4 (hf6).size
      have hg4 : Bk w4 wd.heap.size 26 #[.int .i64 0, .int .i64 0] := (hg6).pb hk4 ((hg6).lt) (by omega)
      have em : IntKind.i64.wrap (x.p + m) = x.p + m := IntWalk.i64_in _ (by omega)
      go_wp2_with fail
      refine hK.out _ _ ⟨(hsd.pot h3 hf4 hp4).job h3, (hsd.pot h3 hf4 hp4).fd⟩ (fun hS4 => ?_)
      clear hK K
      (try simp only [Act.put, List.setIfInBounds_toArray, List.set_cons_zero, List.set_cons_succ])
      refine wpAnyH_take (i := 10) (oi := { dst := some 49, op := Go.Op.binOp Go.BinOp.add 3 (Go.Operand.tmp 41) (Go.Operand.tmp 48) 3, type := 3, pos := "outright.go:127", after := #[{ on := 2, ground := Go.Ground.data }, { on := 9, ground := Go.Ground.data }], guard := none }) (v := ?_) rfl (by kernel_rfl) (by kernel_rfl) (by kernel_rfl) (fun _ _ _ h => nomatch h.1) (.inl ⟨by rfl, ?_⟩) (by assumption) ?_
      rotate_left
      · (intro w' hSw; (try dsimp only at hSw); (have c0 := hSw.2.at_ 0 _ rfl; have c17 := hSw.1.at_ 17 _ rfl); go_simp <;> with_reducible rfl)
      (try simp only [Act.put, List.setIfInBounds_toArray, List.set_cons_zero, List.set_cons_succ])
      refine wpAnyH_ready (rs := [11]) (by kernel_rfl) (by simp) ?_
      refine AllReadyH.cons (o := { dst := some 50, op := Go.Op.call { callee := Go.Callee.value (Go.Operand.func 10), args := #[Go.Operand.tmp 39, Go.Operand.tmp 49], argTypes := #[33, 3] }, type := 43, pos := "outright.go:127", after := #[{ on := 0, ground := Go.Ground.data }, { on := 10, ground := Go.Ground.data }, { on := 9, ground := Go.Ground.chain }], guard := none }) rfl (fun K hK => ?_) ?_
      · go_simp
        go_at_call 10
        obtain ⟨h0, hq1, hq2⟩ := heard_has J x.p m hxp ⟨hm1, hm2⟩
        refine (hearF_ok J h3.ck (x.p + m) ja jn jc _ h3.ejn hjm ((hsd.pot h3 hf4 hp4).rg h3)).mono ?_
        rintro e w5 ⟨rfl, hb5⟩
        rw [h0]
        generalize (hearI J (x.p + m)).1.1 = q1 at hq1 hq2 ⊢
        generalize (hearI J (x.p + m)).1.2 = q2 at hq1 hq2 ⊢
        clear h0
        have hp5 : Pt w5 b := (hp4).below hb5 (hp4).lt
        have hf5 : PB b wd.heap.size wd w5 := (hf4).below hb5 (hf4).size
        have hg5 : Bk w5 wd.heap.size 26 #[.int .i64 0, .int .i64 0] := (hg4).below hb5 ((hg4).lt)
        go_wp2_with fail
        refine hK.out _ _ ⟨(hsd.pot h3 hf5 hp5).job h3, (hsd.pot h3 hf5 hp5).fd⟩ (fun hS5 => ?_)
        clear hK K
        (try simp only [Act.put, List.setIfInBounds_toArray, List.set_cons_zero, List.set_cons_succ])
        refine wpAnyH_take (i := 12) (oi := { dst := some 38, op := Go.Op.move (Go.Operand.tmp 50), type := 43, pos := "outright.go:127", after := #[{ on := 11, ground := Go.Ground.data }], guard := none }) (v := ?_) rfl (by kernel_rfl) (by kernel_rfl) (by kernel_rfl) (fun _ _ _ h => nomatch h.1) (.inl ⟨by rfl, ?_⟩) (by assumption) ?_
        rotate_left
        · (intro w' hSw; (try dsimp only at hSw); (have c0 := hSw.2.at_ 0 _ rfl; have c17 := hSw.1.at_ 17 _ rfl); go_simp <;> with_reducible rfl)
        (try simp only [Act.put, List.setIfInBounds_toArray, List.set_cons_zero, List.set_cons_succ])
        refine wpAnyH_take (i := 13) (oi := { dst := some 51, op := Go.Op.extract (Go.Operand.tmp 38) 0, type := 26, pos := "outright.go:127", after := #[{ on := 12, ground := Go.Ground.data }], guard := none }) (v := ?_) rfl (by kernel_rfl) (by kernel_rfl) (by kernel_rfl) (fun _ _ _ h => nomatch h.1) (.inl ⟨by rfl, ?_⟩) (by assumption) ?_
        rotate_left
        · (intro w' hSw; (try dsimp only at hSw); (have c0 := hSw.2.at_ 0 _ rfl; have c17 := hSw.1.at_ 17 _ rfl); go_simp <;> with_reducible rfl)
        (try simp only [Act.put, List.setIfInBounds_toArray, List.set_cons_zero, List.set_cons_succ])
        refine wpAnyH_take (i := 14) (oi := { dst := some 52, op := Go.Op.extract (Go.Operand.tmp 38) 1, type := 40, pos := "outright.go:127", after := #[{ on := 12, ground := Go.Ground.data }, { on := 16, ground := Go.Ground.gcOnly Go.Departure.lateStores }], guard := none }) (v := ?_) rfl (by kernel_rfl) (by kernel_rfl) (by kernel_rfl) (fun _ _ _ h => nomatch h.1) (.inl ⟨by rfl, ?_⟩) (by assumption) ?_
        rotate_left
        · (intro w' hSw; (try dsimp only at hSw); (have c0 := hSw.2.at_ 0 _ rfl; have c17 := hSw.1.at_ 17 _ rfl); go_simp <;> with_reducible rfl)
        (try simp only [Act.put, List.setIfInBounds_toArray, List.set_cons_zero, List.set_cons_succ])
        refine wpAnyH_ready (rs := [16]) (by kernel_rfl) (by simp) ?_
        refine AllReadyH.cons (o := { dst := none, op := Go.Op.store 26 (Go.Operand.tmp 10) (Go.Operand.tmp 51), type := 0, pos := "outright.go:127", after := #[{ on := 15, ground := Go.Ground.data }, { on := 13, ground := Go.Ground.data }, { on := 11, ground := Go.Ground.chain }, { on := 0, ground := Go.Ground.phase }, { on := 1, ground := Go.Ground.phase }, { on := 2, ground := Go.Ground.phase }, { on := 3, ground := Go.Ground.phase }, { on := 4, ground := Go.Ground.phase }, { on := 5, ground := Go.Ground.phase }, { on := 6, ground := Go.Ground.phase }, { on := 7, ground := Go.Ground.phase }, { on := 8, ground := Go.Ground.phase }, { on := 9, ground := Go.Ground.phase }, { on := 10, ground := Go.Ground.phase }, { on := 11, ground := Go.Ground.phase }, { on := 12, ground := Go.Ground.phase }, { on := 13, ground := Go.Ground.phase }, { on := 14, ground := Go.Ground.textOnly Go.Departure.lateStores }, { on := 15, ground := Go.Ground.phase }], guard := none }) rfl (fun K hK => ?_) ?_
        · have hG := hg5
          have d0 := hG.at_ 0 _ rfl
          have d1 := hG.at_ 1 _ rfl
          have f0 := hG.free 0
          have f1 := hG.free 1
          have hG' : Bk ((w5.setCell ⟨wd.heap.size, 0, none⟩ (.int .i64 q1)).setCell ⟨wd.heap.size, 1, none⟩ (.int .i64 q2)) wd.heap.size 26 #[.int .i64 q1, .int .i64 q2] := (hG.put 0 _).put 1 _
          have hgb : b ≠ wd.heap.size := by omega
          have hP7 := ((show Pt w5 b from hp5).other (p := ⟨wd.heap.size, 0, none⟩) hgb (.int .i64 q1)).other (p := ⟨wd.heap.size, 1, none⟩) hgb (.int .i64 q2)
          have hF7 := ((show PB b wd.heap.size wd w5 from hf5).setCell (p := ⟨wd.heap.size, 0, none⟩) hlo6 (.int .i64 q1)).setCell (p := ⟨wd.heap.size, 1, none⟩) hlo6 (.int .i64 q2)
          have hS7' := (⟨(hsd.pot h3 hF7 hP7).job h3, (hsd.pot h3 hF7 hP7).fd⟩ : Bk ((w5.setCell ⟨wd.heap.size, 0, none⟩ (.int .i64 q1)).setCell ⟨wd.heap.size, 1, none⟩ (.int .i64 q2)) g4 33 (jobC J (.slice ja jn jc)) ∧ Bk ((w5.setCell ⟨wd.heap.size, 0, none⟩ (.int .i64 q1)).setCell ⟨wd.heap.size, 1, none⟩ (.int .i64 q2)) g6 37 (fdC x))
          go_simp
          refine hK.out _ _ hS7' (fun hS7 => ?_)
          clear hK K
          (try simp only [Act.put, List.setIfInBounds_toArray, List.set_cons_zero, List.set_cons_succ])
          refine wpAnyH_ready (rs := [17]) (by kernel_rfl) (by simp) ?_
          refine AllReadyH.cons (o := { dst := some 11, op := Go.Op.assign (Go.Operand.tmp 52), type := 40, pos := "outright.go:127", after := #[{ on := 14, ground := Go.Ground.data }, { on := 16, ground := Go.Ground.chain }, { on := 0, ground := Go.Ground.phase }, { on := 1, ground := Go.Ground.phase }, { on := 2, ground := Go.Ground.phase }, { on := 3, ground := Go.Ground.phase }, { on := 4, ground := Go.Ground.phase }, { on := 5, ground := Go.Ground.phase }, { on := 6, ground := Go.Ground.phase }, { on := 7, ground := Go.Ground.phase }, { on := 8, ground := Go.Ground.phase }, { on := 9, ground := Go.Ground.phase }, { on := 10, ground := Go.Ground.phase }, { on := 11, ground := Go.Ground.phase }, { on := 12, ground := Go.Ground.phase }, { on := 13, ground := Go.Ground.phase }, { on := 14, ground := Go.Ground.phase }, { on := 15, ground := Go.Ground.phase }, { on := 16, ground := Go.Ground.phase }], guard := none }) rfl (fun K hK => ?_) ?_
          · go_simp
            refine hK.out _ _ hS7' (fun hS8 => ?_)
            clear hK K
            (try simp only [Act.put, List.setIfInBounds_toArray, List.set_cons_zero, List.set_cons_succ])
            refine wpAnyH_done (by kernel_rfl) ?_ _
            exact ⟨rfl, m, q1, q2, wd.heap.size, rfl, hsd.pot h3 hF7 hP7, hG', hq1, hq2⟩
          exact AllReadyH.nil
        exact AllReadyH.nil
      exact AllReadyH.nil
    exact AllReadyH.nil
  exact AllReadyH.nil
end Go.Proofs.Ytggokdmlijipjaa
/- The law ReedTrue: region 5. -/
namespace Go.Proofs.Ytggokdmlijipjaa
set_option linter.all false
open Go.RowKit
set_option maxHeartbeats 4000000 in
set_option maxRecDepth 1000000 in
theorem part5 {w0 w3 : World} {b g4 : Nat} {J : Jb} {ja : Option Addr} {jn jc : Nat} {la : Option Addr} {ln lc : Nat} {l : List Int} {g6 : Nat} {x : Fd} {sa : Option Addr} {sn sc : Nat} {shl : List Int} {w : World} {u0 u1 u8 u9 u10 u11 u12 u13 u14 u15 u16 u17 u18 u19 u20 u21 u22 u23 u24 u25 u26 u27 u28 u29 u30 u31 u32 u33 u34 u35 u36 u37 u38 u39 u40 u41 u42 u43 u44 u45 u46 u47 u48 u49 u50 u51 u52 u53 u54 u55 u56 u57 u58 u59 u60 u61 u62 u63 u64 u65 u66 u67 u68 u69 u70 u71 u72 u73 u74 u75 u76 u77 u78 u79 u80 u81 u82 u83 u84 u85 u86 u87 u88 u89 u90 u91 u92 u93 u94 u95 u96 u97 u98 u99 u100 u101 u102 u103 u104 u105 u106 u107 u108 u109 u110 u111 u112 u113 u114 u115 u116 u117 u118 u119 u120 u121 u122 u123 u124 u125 u126 u127 u128 u129 u130 u131 u132 u133 u134 u135 u136 u137 u138 u139 u140 u141 u142 u143 u144 u145 u146 u147 u148 u149 u150 u151 u152 u153 u154 u155 u156 u157 u158 u159 u160 u161 u162 u163 u164 u165 u166 u167 u168 u169 u170 u171 u172 u173 u174 u175 u176 u177 u178 u179 u180 u181 u182 u183 u184 u185 u186 u187 u188 u189 u190 u191 u192 u193 u194 u195 u196 u197 u198 u199 u200 u201 u202 u203 u204 : Value} (hfine : FineOK) (htun : TunOK) (h3 : L3 w0 w3 b g4 J ja jn jc la ln l) (hs : LS w3 b g6 x sa shl w) (hin : Ins shl (conds J.sh)) (hsn : sn = shl.length) (hx : J.tg.has x) : Code.wp Try.prog rest5 (QL w0) ⟨#[u0, u1, (.bool false), (.pointer (some ⟨b, 0, none⟩)), (.pointer (some ⟨g4, 0, none⟩)), (.slice la ln lc), (.pointer (some ⟨g6, 0, none⟩)), (.slice sa sn sc), u8, u9, u10, u11, u12, u13, u14, u15, u16, u17, u18, u19, u20, u21, u22, u23, u24, u25, u26, u27, u28, u29, u30, u31, u32, u33, u34, u35, u36, u37, u38, u39, u40, u41, u42, u43, u44, u45, u46, u47, u48, u49, u50, u51, u52, u53, u54, u55, u56, u57, u58, u59, u60, u61, u62, u63, u64, u65, u66, u67, u68, u69, u70, u71, u72, u73, u74, u75, u76, u77, u78, u79, u80, u81, u82, u83, u84, u85, u86, u87, u88, u89, u90, u91, u92, u93, u94, u95, u96, u97, u98, u99, u100, u101, u102, u103, u104, u105, u106, u107, u108, u109, u110, u111, u112, u113, u114, u115, u116, u117, u118, u119, u120, u121, u122, u123, u124, u125, u126, u127, u128, u129, u130, u131, u132, u133, u134, u135, u136, u137, u138, u139, u140, u141, u142, u143, u144, u145, u146, u147, u148, u149, u150, u151, u152, u153, u154, u155, u156, u157, u158, u159, u160, u161, u162, u163, u164, u165, u166, u167, u168, u169, u170, u171, u172, u173, u174, u175, u176, u177, u178, u179, u180, u181, u182, u183, u184, u185, u186, u187, u188, u189, u190, u191, u192, u193, u194, u195, u196, u197, u198, u199, u200, u201, u202, u203, u204], []⟩ w := by
  rw [rest5_eq]
  have hjm : jn ≤ 9223372036854775807 := by have h4 := (check_ok h3.ck).inn.len; have := h3.ejn; omega
  have HS := hidMk hs
  have HF := hidMk hfine
  have HT := hidMk htun
  have H3 := hidMk h3
  have HI := hidMk hin
  have HN := hidMk hsn
  have HX := hidMk hx
  have hj := hs.job h3
  clear hs hfine htun h3 hin hsn hx
  go_wp2_with (refine wpList_load_row rfl 33 _ rfl g4 rfl _ (jobC J (.slice ja jn jc)) _ _ hj Try.underlying33 rfl szJob ?_)
  refine (passesF_ok J H3.out.ck ja jn jc _ H3.out.ejn hjm (HS.out.rg H3.out)).mono ?_
  rintro e w2 ⟨rfl, hb2⟩
  have HS2 := hidMk (HS.out.next hb2)
  clear hb2 hj
  go_wp2_with fail
  exact part6 HF.out HT.out H3.out HS2.out HI.out HN.out HX.out
end Go.Proofs.Ytggokdmlijipjaa
